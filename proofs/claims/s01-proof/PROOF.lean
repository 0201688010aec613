import PyProof.Rows.All
import Wide.All
import OpenK.AllK
import Wide.FinOn
import PyProof.EqAt
import PyProof.EqKinds
import PyProof.TupleCall
import KE.BitLaws
import Open.SpecLaws
import KE.OsHead
import KE.OsGo
import PySem.Challenge.RW_busterminal_s01_answers
section
set_option Elab.async false
set_option linter.all false
set_option maxRecDepth 100000
namespace L2
open PySem PySem.Spec PyProof.Rows

/-- a key: an int or a str -/
abbrev Key := Sum Int Str
def keyIs : Key → Value → Bool
  | .inl k, v => Value.isInt k v
  | .inr x, v => Value.isStrOf x v
def keyH (w : World) : Key → Int
  | .inl k => hashInt k
  | .inr x => hashStr w x
theorem keyIs_shape : ∀ {k : Key} {v : Value}, keyIs k v = true → (∃ i t, k = Sum.inl i ∧ v = Value.int i t) ∨ (∃ x t, k = Sum.inr x ∧ v = Value.str x t)
  | .inl i, v, h => by
    obtain ⟨t, e⟩ := Value.isInt_shape (k := i) (v := v) h
    exact .inl ⟨i, t, rfl, e⟩
  | .inr x, v, h => by
    obtain ⟨t, e⟩ := Value.isStrOf_shape (x := x) (v := v) h
    exact .inr ⟨x, t, rfl, e⟩
theorem key_ll (a b : Int) : decide ((Sum.inl a : Key) = Sum.inl b) = (a == b) := by
  by_cases e : a = b
  · subst e; simp
  · have h : ¬ (Sum.inl a : Key) = Sum.inl b := fun q => e (Sum.inl.inj q)
    rw [decide_eq_false h]
    exact (beq_eq_false_iff_ne.mpr e).symm
theorem key_rr (a b : Str) : decide ((Sum.inr a : Key) = Sum.inr b) = decide (a = b) := by
  by_cases e : a = b
  · subst e; simp
  · have h : ¬ (Sum.inr a : Key) = Sum.inr b := fun q => e (Sum.inr.inj q)
    rw [decide_eq_false h, decide_eq_false e]
theorem key_lr (a : Int) (b : Str) : decide ((Sum.inl a : Key) = Sum.inr b) = false := decide_eq_false (fun q => nomatch q)
theorem key_rl (a : Str) (b : Int) : decide ((Sum.inr a : Key) = Sum.inl b) = false := decide_eq_false (fun q => nomatch q)

def mixKind (prog : Program) (w : World) : PySem.KeyKind prog w Key where
  is := keyIs
  hash := keyH w
  inj := fun v a b ha hb => by
    rcases keyIs_shape ha with ⟨i, t, rfl, rfl⟩ | ⟨x, t, rfl, rfl⟩
    · rcases keyIs_shape hb with ⟨j, u, rfl, e⟩ | ⟨y, u, rfl, e⟩
      · injection e with e1 _; rw [e1]
      · exact nomatch e
    · rcases keyIs_shape hb with ⟨j, u, rfl, e⟩ | ⟨y, u, rfl, e⟩
      · exact nomatch e
      · injection e with e1 _; rw [e1]
  byValue := fun k v h => by
    rcases keyIs_shape h with ⟨i, t, rfl, rfl⟩ | ⟨x, t, rfl, rfl⟩ <;> rfl
  pyHash := fun hv h => by
    rcases keyIs_shape hv with ⟨i, t, rfl, rfl⟩ | ⟨x, t, rfl, rfl⟩
    · exact wpAny_pyHash_int h
    · exact wpAny_pyHash_str h
  eqBool := fun hu hv h => by
    rcases keyIs_shape hu with ⟨i, t, rfl, rfl⟩ | ⟨x, t, rfl, rfl⟩
    · rcases keyIs_shape hv with ⟨j, u, rfl, rfl⟩ | ⟨y, u, rfl, rfl⟩
      · rw [key_ll] at h; exact wpAny_eqBool_int h
      · rw [key_lr] at h; exact SeqAt.EqAt.int_str i t y u _ _ _ _ h
    · rcases keyIs_shape hv with ⟨j, u, rfl, rfl⟩ | ⟨y, u, rfl, rfl⟩
      · rw [key_rl] at h; exact SeqAt.EqAt.str_int x t j u _ _ _ _ h
      · rw [key_rr] at h; exact wpAny_eqBool_str h
  «strs» := fun k x t v h => by
    rcases keyIs_shape h with ⟨i, u, rfl, e⟩ | ⟨y, u, rfl, e⟩
    · exact nomatch e
    · injection e with e1 _
      subst e1
      cases v <;> rfl

end L2

namespace L2
open PySem PySem.Spec PyProof.Rows

/-- a value, without the heap -/
inductive V where
  | non | bl (b : Bool) | int (i : Int) | str (x : Str) | byt (b : Array UInt8) | flt (b : UInt64) | ref (a : Addr) | ty (n : String)
  deriving DecidableEq

def RelV : V → Value → Prop
  | .non, u => u = Value.none
  | .bl b, u => u = Value.bool b
  | .int i, u => ∃ t, u = Value.int i t
  | .str x, u => ∃ t, u = Value.str x t
  | .byt b, u => ∃ t, u = Value.bytes b t
  | .flt b, u => ∃ t, u = Value.float b t
  | .ref a, u => u = Value.ref a
  | .ty n, u => u = Value.type n

abbrev Vals : List V → List Value → Prop := Paired RelV
theorem Vals.length {xs : List V} {us : List Value} (r : Vals xs us) : xs.length = us.length := Paired.length r
theorem Vals.get : ∀ {xs : List V} {us : List Value} {i : Nat} {x : V}, Vals xs us → xs[i]? = some x → ∃ u, us[i]? = some u ∧ RelV x u
  | _, _, _, _, .nil, e => by simp at e
  | _, _, 0, _, .cons r _, e => by simp at e; subst e; exact ⟨_, rfl, r⟩
  | _, _, i + 1, x, .cons _ t, e => by
    obtain ⟨u, h1, h2⟩ := Vals.get (i := i) (x := x) t (by simpa using e)
    exact ⟨u, by simpa using h1, h2⟩
theorem Vals.set {x : V} {u : Value} (r : RelV x u) : ∀ {xs : List V} {us : List Value} (i : Nat), Vals xs us → Vals (xs.set i x) (us.set i u)
  | _, _, _, .nil => .nil
  | _, _, 0, .cons _ t => .cons r t
  | _, _, i + 1, .cons q t => .cons q (Vals.set r i t)
theorem Vals.append : ∀ {xs ys : List V} {us ws : List Value}, Vals xs us → Vals ys ws → Vals (xs ++ ys) (us ++ ws)
  | _, _, _, _, .nil, s => s
  | _, _, _, _, .cons r t, s => .cons r (Vals.append t s)
theorem Vals.take : ∀ {xs : List V} {us : List Value} (n : Nat), Vals xs us → Vals (xs.take n) (us.take n)
  | _, _, 0, _ => .nil
  | _, _, _ + 1, .nil => .nil
  | _, _, n + 1, .cons r t => .cons r (Vals.take n t)
theorem Vals.drop : ∀ {xs : List V} {us : List Value} (n : Nat), Vals xs us → Vals (xs.drop n) (us.drop n)
  | _, _, 0, r => r
  | _, _, _ + 1, .nil => .nil
  | _, _, n + 1, .cons _ t => Vals.drop n t
def RelO : Option V → Option Value → Prop
  | some v, some u => RelV v u
  | none, none => True
  | _, _ => False
def KV {κ : Type} : List (κ × V) → List (κ × Value) → Prop := Paired fun (p : κ × V) (q : κ × Value) => p.1 = q.1 ∧ RelV p.2 q.2

/-- a key of a dict (00_mix): an int or a text -/
def kV : Key → V
  | .inl i => .int i
  | .inr x => .str x

/-- what stands at a tracked address -/
inductive HO where
  /-- a list -/
  | lst (xs : List V)
  /-- a tuple (never changes) -/
  | tup (xs : List V)
  /-- a dict whose keys are ints and texts; one whose keys are tuples of ints and texts (the empty one is both) -/
  | dK (kvs : List (Key × V)) | dT (kvs : List (List Key × V))
  /-- a set of ints: its members, its size -/
  | set (S : Int → Bool) (n : Nat)
  /-- an instance of the class at C, its dict at dx, its attributes -/
  | ins (C dx : Addr) (fs : List (Str × V))
  /-- the dict of the instance at x -/
  | own (x : Addr)
  /-- the dict of an exception -/
  | xd (fs : List (Str × V))
  /-- a bound method, f of x -/
  | met (f x : Addr)
  /-- a range object lo, lo + 1, .. below hi -/
  | rng (lo hi : Int)
  /-- a thing that is known to the object (the script; a dict while a loop walks it): read, never written while it is so -/
  | frz (o : Obj) (u : HO)
  /-- a code object's table -/
  | tbl (ps : Array Value)
  /-- any other thing, by what is true of its one object (a def of one's own: SetO a S n := HO.ext fun h => ..) -/
  | ext (φ : Heap → Prop)

abbrev Hp := Addr → Option HO
def upd (H : Hp) (a : Addr) (o : HO) : Hp := fun b => if b = a then some o else H b
theorem upd_same {H : Hp} {a : Addr} {o : HO} : upd H a o a = some o := by unfold upd; rw [if_pos rfl]
theorem upd_ne {H : Hp} {a b : Addr} {o : HO} (h : b ≠ a) : upd H a o b = H b := by unfold upd; rw [if_neg h]
theorem ne_of_none {H : Hp} {a b : Addr} {o : HO} (h : H a = some o) (h' : H b = none) : a ≠ b := by
  intro e; subst e; rw [h] at h'; cases h'

section
variable (P : Program) (w : World)
def ObjOk (H : Hp) (h : Heap) (a : Addr) : HO → Prop
  | .lst xs => xs.length ≤ sizeLine ∧ ∃ (its : List Value) (n : Nat), Vals xs its ∧ h.get? a = some { cls := .type "list", data := .seq its.toArray n }
  | .tup xs => xs.length ≤ sizeLine ∧ ∃ its : List Value, Vals xs its ∧ IsTup h a its.toArray
  | .dK kvs => kvs.length ≤ sizeLine ∧ (a == sysModules) = false ∧ ∃ vs, KV kvs vs ∧ h.DictOf (mixKind P w) a vs
  | .dT kvs => kvs.length ≤ sizeLine ∧ (a == sysModules) = false ∧ ∃ xs : List (List Key × Addr × Value),
      Paired (fun (p : List Key × V) (q : List Key × Addr × Value) => p.1 = q.1 ∧ H q.2.1 = some (.tup (p.1.map kV)) ∧ RelV p.2 q.2.2) kvs xs ∧
      ∃ o es ep, h.get? a = some o ∧ o.ExactDict ∧ o.data = .dict es ep ∧ es.toList = xs.map (entryOfKey (tupleKind (mixKind P w))) ∧ (xs.map (·.1)).Nodup
  | .set S n => h.SetOf (intKind P w) a S n
  | .ins C dx fs => H dx = some (.own a) ∧ fs.length ≤ 1000 ∧ dx ≠ a ∧ h.get? a = some (PySem.W.instObj C dx) ∧
      ∃ mA, h.Ns1 dx mA ∧ (∀ f, RelO (fs.lookup f) (mA f)) ∧ PySem.Within mA (fs.map (·.1))
  | .own _ => ∃ o, h.get? a = some o
  | .xd fs => ∃ mA, h.Ns1 a mA ∧ ∀ f, RelO (fs.lookup f) (mA f)
  | .rng lo hi => ∃ t u v, h.get? a = some { cls := .type "range", data := .fields #[.int lo t, .int hi u, .int 1 v] }
  | .frz o u => h.get? a = some o ∧ ObjOk H h a u
  | .tbl ps => h.get? a = some { cls := .none, data := .fields ps }
  | .met f x => h.get? a = some (PySem.W.methodObj (.ref f) (.ref x))
  | .ext φ => φ h ∧ (∃ o, h.get? a = some o) ∧ ∀ h1 h2 : Heap, φ h1 → (∀ o, h1.get? a = some o → h2.get? a = some o) → φ h2
/-- the abstract heap is held -/
def HOk (H : Hp) (h : Heap) : Prop := ∀ a o, H a = some o → ObjOk P w H h a o
end

section
variable {P : Program} {w : World} {H H' : Hp} {h h' : Heap} {a : Addr} {o : HO}
theorem ObjOk.lt (x : ObjOk P w H h a o) : a < h.objs.size := by
  cases o with
  | lst xs => obtain ⟨_, _, _, _, e⟩ := x; exact Heap.lt_size e
  | tup xs => obtain ⟨_, _, _, p⟩ := x; exact p.lt
  | dK kvs => obtain ⟨_, _, _, _, o, _, _, e, _⟩ := x; exact Heap.lt_size e
  | dT kvs => obtain ⟨_, _, _, _, o, _, _, e, _⟩ := x; exact Heap.lt_size e
  | set S n => obtain ⟨o, _, _, _, e, _⟩ := x; exact Heap.lt_size e
  | ins C dx fs => obtain ⟨_, _, _, e, _⟩ := x; exact Heap.lt_size e
  | own y => obtain ⟨_, e⟩ := x; exact Heap.lt_size e
  | xd fs => obtain ⟨_, ⟨_, _, _, e, _⟩, _⟩ := x; exact Heap.lt_size e
  | rng lo hi => obtain ⟨_, _, _, e⟩ := x; exact Heap.lt_size e
  | frz ob u => obtain ⟨e, _⟩ := x; exact Heap.lt_size e
  | tbl ps => exact Heap.lt_size (show h.get? a = some _ from x)
  | met f y => exact Heap.lt_size (show h.get? a = some _ from x)
  | ext φ => obtain ⟨_, ⟨_, e⟩, _⟩ := x; exact Heap.lt_size e
theorem Paired.mapP {α β : Type} {F G : α → β → Prop} : ∀ {l₁ : List α} {l₂ : List β}, Paired F l₁ l₂ → (∀ a b, F a b → G a b) → Paired G l₁ l₂
  | _, _, .nil, _ => .nil
  | _, _, .cons r t, f => .cons (f _ _ r) (Paired.mapP t f)
/-- what an object's description leans on: its own object, its own dict, the tuples -/
theorem ObjOk.stay (x : ObjOk P w H h a o) (k : ∀ b u, (b = a ∨ H b = some (.own a)) → h.get? b = some u → h'.get? b = some u)
    (ho : ∀ b, H b = some (.own a) → H' b = some (.own a)) (ht : ∀ b xs, H b = some (.tup xs) → H' b = some (.tup xs)) : ObjOk P w H' h' a o := by
  induction o with
  | lst xs => obtain ⟨z, its, n, r, e⟩ := x; exact ⟨z, its, n, r, k _ _ (.inl rfl) e⟩
  | tup xs => obtain ⟨z, its, r, ob, e, c⟩ := x; exact ⟨z, its, r, ob, k _ _ (.inl rfl) e, c⟩
  | dK kvs => obtain ⟨z, y, vs, r, ob, es, ep, e, c⟩ := x; exact ⟨z, y, vs, r, ob, es, ep, k _ _ (.inl rfl) e, c⟩
  | dT kvs =>
    obtain ⟨z, y, xs, r, ob, es, ep, e, c⟩ := x
    exact ⟨z, y, xs, Paired.mapP r fun p q z => ⟨z.1, ht _ _ z.2.1, z.2.2⟩, ob, es, ep, k _ _ (.inl rfl) e, c⟩
  | set S n => obtain ⟨ob, es, ep, t, e, c⟩ := x; exact ⟨ob, es, ep, t, k _ _ (.inl rfl) e, c⟩
  | ins C dx fs =>
    obtain ⟨d, z, ne, e, mA, ⟨od, es, ep, e2, c⟩, r⟩ := x
    exact ⟨ho _ d, z, ne, k _ _ (.inl rfl) e, mA, ⟨od, es, ep, k _ _ (.inr d) e2, c⟩, r⟩
  | own y => obtain ⟨ob, e⟩ := x; exact ⟨ob, k _ _ (.inl rfl) e⟩
  | xd fs => obtain ⟨mA, ⟨od, es, ep, e, c⟩, r⟩ := x; exact ⟨mA, ⟨od, es, ep, k _ _ (.inl rfl) e, c⟩, r⟩
  | rng lo hi => obtain ⟨t, u, v, e⟩ := x; exact ⟨t, u, v, k _ _ (.inl rfl) e⟩
  | frz ob u ih => obtain ⟨e, q⟩ := x; exact ⟨k _ _ (.inl rfl) e, ih q⟩
  | tbl ps =>
    have e : h.get? a = some { cls := .none, data := .fields ps } := x
    show h'.get? a = some { cls := .none, data := .fields ps }
    exact k a _ (.inl rfl) e
  | met f y =>
    have e : h.get? a = some (PySem.W.methodObj (.ref f) (.ref y)) := x
    show h'.get? a = some (PySem.W.methodObj (.ref f) (.ref y))
    exact k a _ (.inl rfl) e
  | ext φ => obtain ⟨p, ⟨o, e⟩, st⟩ := x; exact ⟨st _ _ p fun o q => k _ _ (.inl rfl) q, ⟨o, k _ _ (.inl rfl) e⟩, st⟩
theorem HOk.lt (x : HOk P w H h) (e : H a = some o) : a < h.objs.size := (x a o e).lt
theorem HOk.fresh (x : HOk P w H h) (e : h.objs.size ≤ a) : H a = none := by
  cases q : H a with
  | none => rfl
  | some u => exact absurd (Nat.lt_of_lt_of_le (x.lt q) e) (Nat.lt_irrefl _)
/-- every object of the heap is kept -/
theorem HOk.kept (x : HOk P w H h) (k : ∀ b u, h.get? b = some u → h'.get? b = some u) : HOk P w H h' := fun a o e =>
  (x a o e).stay (fun b u _ q => k b u q) (fun _ q => q) fun _ _ q => q
/-- a new object is laid and tracked -/
theorem HOk.laid (x : HOk P w H h) (k : ∀ b u, h.get? b = some u → h'.get? b = some u) (hp : h.objs.size ≤ a) (new : ObjOk P w (upd H a o) h' a o) : HOk P w (upd H a o) h' := fun b u e => by
  have hn := x.fresh hp
  by_cases hb : b = a
  · subst hb; rw [upd_same] at e; cases e; exact new
  · rw [upd_ne hb] at e
    exact (x b u e).stay (fun c v _ q => k c v q) (fun c q => by rw [upd_ne (ne_of_none q hn)]; exact q) fun c xs q => by rw [upd_ne (ne_of_none q hn)]; exact q
end

/-- what may be read as u: it is u, or a known u -/
def Rd (H : Hp) (a : Addr) (u : HO) : Prop := H a = some u ∨ ∃ o, H a = some (.frz o u)
theorem Rd.ok {P : Program} {w : World} {H : Hp} {h : Heap} {a : Addr} {u : HO} (r : Rd H a u) (x : HOk P w H h) : ObjOk P w H h a u := by
  rcases r with r | ⟨o, r⟩
  · exact x a u r
  · obtain ⟨_, q⟩ := x a _ r
    exact q
/-- what may be written -/
def Mut : Option HO → Prop
  | some (.lst _) => True
  | some (.dK _) => True
  | some (.dT _) => True
  | some (.set _ _) => True
  | some (.ins _ _ _) => True
  | some (.ext _) => True
  | _ => False
section
variable {P : Program} {w : World} {H : Hp} {h h' : Heap} {x e : Addr} {o' : HO}
/-- the object at e is changed: x itself, or the dict of the instance x -/
theorem HOk.write (ok : HOk P w H h) (mu : Mut (H x)) (he : e = x ∨ H e = some (.own x)) (k : ∀ b u, b ≠ e → h.get? b = some u → h'.get? b = some u) (heo : ∃ u, h'.get? e = some u)
    (new : ObjOk P w (upd H x o') h' x o') : HOk P w (upd H x o') h' := fun b u q => by
  have nown : ∀ c y, H c = some (.own y) → c ≠ x := fun c y r z => by subst z; rw [r] at mu; exact mu
  have ntup : ∀ c xs, H c = some (.tup xs) → c ≠ x := fun c xs r z => by subst z; rw [r] at mu; exact mu
  by_cases hb : b = x
  · subst hb; rw [upd_same] at q; cases q; exact new
  · rw [upd_ne hb] at q
    by_cases hbe : b = e
    · have q' : H b = some (.own x) := by
        rcases he with z | z
        · exact absurd (hbe.trans z) hb
        · rw [hbe]; exact z
      rw [q] at q'; cases q'
      obtain ⟨v, hv⟩ := heo
      exact ⟨v, by rw [hbe]; exact hv⟩
    · refine (ok b u q).stay (fun c v hc r => k c v ?_ r) (fun c r => by rw [upd_ne (nown c b r)]; exact r) fun c xs r => by rw [upd_ne (ntup c xs r)]; exact r
      rcases hc with rfl | hc
      · exact hbe
      · rintro rfl
        rcases he with z | z
        · exact nown c b hc z
        · rw [hc] at z; cases z; exact hb rfl
end

structure Un (fs ex : List Addr) (H H' : Hp) (h h' : Heap) : Prop where
  keep : ∀ b o, h.get? b = some o → H b = none → b ∉ fs → b ∉ ex → h'.get? b = some o
  slot : ∀ b o, h.get? b = some o → H b = none → b ∈ fs → b ∉ ex → ∃ sl, h'.get? b = some { o with slots := sl }
  free : ∀ b o, h.get? b = some o → H b = none → b ∉ ex → H' b = none
  there : ∀ b o, h.get? b = some o → b ∉ ex → ∃ o', h'.get? b = some o'
  tups : ∀ b xs, H b = some (.tup xs) → H' b = some (.tup xs)
  frzs : ∀ b o u, H b = some (.frz o u) → H' b = some (.frz o u)
  tbls : ∀ b ps, H b = some (.tbl ps) → ∃ more, H' b = some (.tbl (ps ++ more))
section
variable {fs fs' ex ex' : List Addr} {H H1 H2 : Hp} {h h1 h2 h' : Heap} {a x e : Addr} {o : HO}
theorem Un.any (u : Un fs ex H H1 h h1) {b : Addr} {ob : Obj} (q : h.get? b = some ob) (n : H b = none) (hx : b ∉ ex) : ∃ sl, h1.get? b = some { ob with slots := sl } := by
  by_cases hb : b ∈ fs
  · exact u.slot b ob q n hb hx
  · exact ⟨ob.slots, u.keep b ob q n hb hx⟩
theorem Un.kept (k : ∀ b u, h.get? b = some u → h'.get? b = some u) : Un fs ex H H h h' :=
  ⟨fun b ob q _ _ _ => k b ob q, fun b ob q _ _ _ => ⟨ob.slots, k b ob q⟩, fun _ _ _ n _ => n, fun b ob q _ => ⟨ob, k b ob q⟩, fun _ _ q => q, fun _ _ _ q => q, fun _ ps q => ⟨#[], by rw [q]; simp⟩⟩
theorem Un.refl : Un fs ex H H h h := Un.kept fun _ _ q => q
theorem Un.laid (k : ∀ b u, h.get? b = some u → h'.get? b = some u) (hp : h.objs.size ≤ a) (hn : H a = none) : Un fs ex H (upd H a o) h h' where
  keep := fun b u q _ _ _ => k b u q
  slot := fun b u q _ _ _ => ⟨u.slots, k b u q⟩
  free := fun b u q n _ => by rw [upd_ne (Nat.ne_of_lt (Nat.lt_of_lt_of_le (Heap.lt_size q) hp))]; exact n
  there := fun b u q _ => ⟨u, k b u q⟩
  tups := fun b xs q => by rw [upd_ne (ne_of_none q hn)]; exact q
  frzs := fun b u xs q => by rw [upd_ne (ne_of_none q hn)]; exact q
  tbls := fun b ps q => ⟨#[], by rw [upd_ne (ne_of_none q hn), q]; simp⟩
theorem Un.write (mu : Mut (H x)) (he : e = x ∨ H e = some (.own x)) (k : ∀ b u, b ≠ e → h.get? b = some u → h'.get? b = some u) (heo : ∃ u, h'.get? e = some u) : Un fs ex H (upd H x o) h h' := by
  have hx : ∀ b, H b = none → b ≠ x := fun b n z => by subst z; rw [n] at mu; exact mu
  have hb : ∀ b, H b = none → b ≠ e := fun b n z => by
    subst z
    rcases he with r | r
    · exact hx b n r
    · rw [n] at r; cases r
  have hm : ∀ b u, H b = some u → ¬ Mut (some u) → b ≠ x := fun b u q nm z => by subst z; rw [q] at mu; exact nm mu
  refine ⟨fun b u q n _ _ => k b u (hb b n) q, fun b u q n _ _ => ⟨u.slots, k b u (hb b n) q⟩, fun b u q n _ => by rw [upd_ne (hx b n)]; exact n, fun b u q _ => ?_,
    fun b xs q => by rw [upd_ne (hm b _ q fun z => z)]; exact q, fun b u xs q => by rw [upd_ne (hm b _ q fun z => z)]; exact q, fun b ps q => ⟨#[], by rw [upd_ne (hm b _ q fun z => z), q]; simp⟩⟩
  by_cases hbe : b = e
  · subst hbe; exact heo
  · exact ⟨u, k b u hbe q⟩
end

def trk (h : Heap) (H : Hp) : List Addr := (List.range h.objs.size).filter fun a => (H a).isSome
def hidT (h : Heap) (H : Hp) : Heap := PySem.W.hideAll h (trk h H)
theorem hidT_size (h : Heap) (H : Hp) : (hidT h H).objs.size = h.objs.size := PySem.W.hideAll_size _ _
theorem hidT_get {h : Heap} {H : Hp} {b : Addr} {o : Obj} (e : h.get? b = some o) (n : H b = none) : (hidT h H).get? b = some o :=
  PySem.W.hideAll_get _ e fun hm => by
    have q : (H b).isSome = true := (List.mem_filter.mp hm).2
    rw [n] at q; simp at q
theorem of_hidT {h : Heap} {H : Hp} {b : Addr} {o : Obj} (e : (hidT h H).get? b = some o) : h.get? b = some o ∧ H b = none := by
  have e' : h.get? b = some o := PySem.W.of_hideAll (trk h H) e
  refine ⟨e', ?_⟩
  cases q : H b with
  | none => rfl
  | some x =>
    have hm : b ∈ trk h H := List.mem_filter.mpr ⟨List.mem_range.mpr (Heap.lt_size e'), by simp [q]⟩
    have z : (hidT h H).get? b = none := PySem.W.hideAll_none (trk h H) hm
    rw [z] at e; cases e

end L2

namespace L2
open PySem PySem.Spec PyProof.Rows

/-- the module's facts, over the base: the heap at the law's entry without what is tracked there -/
structure Mod (K : PySem.W.Frag) (mg : Str → Option Value) (base : Heap) : Prop where
  kin : K.In base
  glob : base.Ns mainGlobals mg
  blt : ∃ mb, base.Ns builtinsNs mb ∧ ∀ x : Str, x ≠ "__name__" → mb x = bootBuiltins x
  nolimit : base.NoLimit

/-- the context: a def's body (or a comprehension's block) running. base: fixed through the whole law; s₀, H₀: the entry; outer: the frames whose slots others may change (a def's callers); stack: all frames that run;
   ex: iterators that were made ahead of the entry and are walked here (a comprehension's); fn: the names whose cells were made at the entry (a def: all; a comprehension's block: its own); calm: not within an except suite; pn: pins that every state bears; xe: what is wanted of an exception that leaves the code -/
structure Cx where
  prog : Program
  w : World
  K : PySem.W.Frag
  mg : Str → Option Value
  base : Heap
  A : Around
  N : List Str
  s_0 : Shared
  H_0 : Hp
  env : Env
  outer : List Env
  stack : List Env
  ex : List Addr
  fn : Str → Bool
  calm : Bool
  pn : List (Addr × Obj)
  xe : Value → Shared → Prop
/-- the callers' frames -/
def frs (l : List Env) : List Addr := l.filterMap (·.frame)
abbrev Cx.fs (X : Cx) : List Addr := frs X.outer

def Vis (sc : Scope) (x : Str) : Prop := sc.names.lookup x = some .local ∨ sc.names.lookup x = some .cell ∨ sc.names.lookup x = some .free
def Loc (sc : Scope) (x : Str) : Prop := sc.names.lookup x = some .local ∨ sc.names.lookup x = some .cell
def Look (env : Env) (h : Heap) (m : Str → Option Value) (x : Str) (u : Value) : Prop :=
  (env.kindOf x = some .local ∧ m x = some u) ∨ ((env.kindOf x = some .cell ∨ env.kindOf x = some .free) ∧ ∃ c, env.cells.lookup x = some c ∧ h.IsCell c (some u))

structure Cx.Ok (X : Cx) : Prop where
  mod : Mod X.K X.mg X.base
  kind : X.env.scope.kind = .function
  glob : X.env.globals = mainGlobals
  blt : X.env.builtins = builtinsNs
  above : X.s_0.heap.objs.size ≤ X.env.locals
  inj : ∀ x y c, X.env.cells.lookup x = some c → X.env.cells.lookup y = some c → x = y
  has : ∀ x, (X.env.kindOf x = some .cell ∨ X.env.kindOf x = some .free) → ∃ c, X.env.cells.lookup x = some c
  cab : ∀ x c, X.fn x = true → X.env.cells.lookup x = some c → X.s_0.heap.objs.size ≤ c
  hd : X.calm = true → X.A.handled = none
  frames : X.A.frames = some X.stack
  stk : X.stack = X.outer ∨ (X.stack = X.env :: X.outer ∧ X.env.frame = some X.env.locals)
  exf : ∀ b ∈ X.ex, b ≠ X.env.locals ∧ ∀ x c, X.env.cells.lookup x = some c → c ≠ b
  bs : ∀ b o, X.base.get? b = some o → X.s_0.heap.get? b = some o ∧ X.H_0 b = none
  bsz : X.base.objs.size ≤ X.s_0.heap.objs.size
  noex : ∀ b o, X.base.get? b = some o → b ∉ X.ex
  exfs : ∀ b ∈ X.ex, b ∉ X.fs
  funs : X.s_0.heap.FunFrames X.base X.outer
  frf : ∀ b ∈ X.fs, X.H_0 b = none

structure Inv (X : Cx) (pins : List (Addr × Obj)) (σ : List (Option V)) (H : Hp) (s : Shared) : Prop where
  ok : X.Ok
  os : s.os = X.s_0.os
  bare : AllBare s.gens
  base : Un X.fs X.ex X.H_0 H X.s_0.heap s.heap
  loc : ∃ m, s.heap.Ns X.env.locals m ∧ ∀ (i : Nat) (x : Str) (v : V), X.N[i]? = some x → σ[i]? = some (some v) → Vis X.env.scope x → ∃ u, RelV v u ∧ Look X.env s.heap m x u
  cell : ∀ x c, X.env.cells.lookup x = some c → ∃ v, s.heap.IsCell c v
  free : H X.env.locals = none
  freeC : ∀ x c, X.env.cells.lookup x = some c → H c = none
  pin : ∀ p ∈ X.pn ++ pins, s.heap.get? p.1 = some p.2 ∧ H p.1 = none ∧ p.1 ≠ X.env.locals ∧ p.1 ∉ X.fs ∧ ∀ v, p.2.data ≠ .cell v
  hok : HOk X.prog X.w H s.heap
  len : σ.length = X.N.length

section
variable {X : Cx} {pins : List (Addr × Obj)} {σ : List (Option V)} {H H' : Hp} {s : Shared} {h' : Heap}

theorem Cx.Ok.nofr (ok : X.Ok) {b : Addr} {o : Obj} (e : X.base.get? b = some o) : b ∉ X.fs := fun hb => by
  have := (ok.funs.mem hb).1
  rw [e] at this; cases this
theorem Inv.bs (I : Inv X pins σ H s) : ∀ b o, X.base.get? b = some o → s.heap.get? b = some o ∧ H b = none := fun b o e =>
  ⟨I.base.keep b o (I.ok.bs b o e).1 (I.ok.bs b o e).2 (I.ok.nofr e) (I.ok.noex b o e), I.base.free b o (I.ok.bs b o e).1 (I.ok.bs b o e).2 (I.ok.noex b o e)⟩
theorem Inv.bk (I : Inv X pins σ H s) : ∀ b o, X.base.get? b = some o → s.heap.get? b = some o := fun b o e => (I.bs b o e).1
theorem Inv.mod (I : Inv X pins σ H s) : Mod X.K X.mg X.base := I.ok.mod
theorem Inv.kIn (I : Inv X pins σ H s) : X.K.In s.heap := I.ok.mod.kin.keeps I.bk
/-- the frame over the base: for OpenK's rules (K.In X.base is I.mod.kin) -/
theorem Inv.fr (I : Inv X pins σ H s) : ∃ m, Fr X.base X.env.locals s.heap m :=
  let ⟨m, hn, _⟩ := I.loc
  ⟨m, hn, I.bk, Nat.le_trans I.ok.bsz I.ok.above⟩
theorem Inv.lt (I : Inv X pins σ H s) : X.env.locals < s.heap.objs.size := let ⟨_, hn, _⟩ := I.loc; hn.lt
theorem Inv.sz (I : Inv X pins σ H s) : X.s_0.heap.objs.size ≤ s.heap.objs.size := Nat.le_trans I.ok.above (Nat.le_of_lt I.lt)
theorem Inv.nofs (I : Inv X pins σ H s) {a : Addr} (h : s.heap.objs.size ≤ a) : a ∉ X.fs := fun hb => by
  obtain ⟨_, o, ho, _⟩ := I.ok.funs.mem hb
  exact absurd (Nat.lt_of_lt_of_le (Heap.lt_size ho) (Nat.le_trans I.sz h)) (Nat.lt_irrefl _)
theorem Inv.cne (I : Inv X pins σ H s) : ∀ x c, X.env.cells.lookup x = some c → c ≠ X.env.locals := fun x c e z => by
  obtain ⟨v, o, ho, hd⟩ := I.cell x c e
  obtain ⟨m, ⟨o', es, ep, ho', hd', _⟩, _⟩ := I.loc
  rw [z, ho'] at ho; cases ho; rw [hd'] at hd; cases hd
theorem Inv.funs (I : Inv X pins σ H s) : s.heap.FunFrames X.base X.outer := by
  have all : ∀ (l : List Env), (∀ b ∈ frs l, b ∈ X.fs) → X.s_0.heap.FunFrames X.base l → s.heap.FunFrames X.base l := by
    intro l
    induction l with
    | nil => intro _ _; trivial
    | cons env r ih =>
      intro hs hl
      obtain ⟨hk, ⟨L, o, hf, hn, ho, hd⟩, hr⟩ := hl
      have hL : L ∈ X.fs := hs L (by unfold frs; rw [List.filterMap_cons, hf]; exact List.mem_cons_self)
      obtain ⟨sl, e⟩ := I.base.slot L o ho (I.ok.frf L hL) hL fun z => I.ok.exfs L z hL
      exact ⟨hk, ⟨L, _, hf, hn, e, hd⟩, ih (fun b hb => hs b (by unfold frs; rw [List.filterMap_cons, hf]; exact List.mem_cons_of_mem _ hb)) hr⟩
  exact all X.outer (fun _ hb => hb) I.ok.funs

/-- the frames that run, for a call -/
theorem Inv.stack (I : Inv X pins σ H s) : s.heap.FunFrames X.base X.stack := by
  rcases I.ok.stk with e | ⟨e, hf⟩
  · rw [e]; exact I.funs
  · rw [e]
    obtain ⟨m, hn, _⟩ := I.loc
    refine .cons (by rw [I.ok.kind]; decide) hf hn ?_ I.funs
    exact Heap.get?_none_of_le (Nat.le_trans I.ok.bsz I.ok.above)
theorem Inv.stkSub (I : Inv X pins σ H s) : ∀ b ∈ frs X.stack, b ∈ X.env.locals :: X.fs := fun b hb => by
  rcases I.ok.stk with e | ⟨e, hf⟩
  · rw [e] at hb; exact List.mem_cons_of_mem _ hb
  · rw [e] at hb
    unfold frs at hb
    rw [List.filterMap_cons, hf] at hb
    exact hb
theorem Inv.stkFree (I : Inv X pins σ H s) : ∀ b ∈ frs X.stack, H b = none := fun b hb => by
  rcases List.mem_cons.mp (I.stkSub b hb) with e | hb
  · rw [e]; exact I.free
  · obtain ⟨_, o, ho, _⟩ := I.ok.funs.mem hb
    exact I.base.free b o ho (I.ok.frf b hb) fun z => I.ok.exfs b z hb

/-- THE STEP: the untracked objects but the frame and the records at ch are kept (the callers' frames up to slots), the frame's map is kept, the new abstract heap is held -/
theorem Inv.step {g' : Array GenState} {t' : Nat} {d' : Drawn} {ch : List Addr} (I : Inv X pins σ H s)
    (hch : ∀ b ∈ ch, (b ∈ X.ex ∨ X.s_0.heap.objs.size ≤ b) ∧ b ≠ X.env.locals ∧ (∀ x c, X.env.cells.lookup x = some c → c ≠ b) ∧ ∀ p ∈ X.pn ++ pins, p.1 ≠ b)
    (keep : ∀ b o, b ≠ X.env.locals → b ∉ X.fs → b ∉ ch → s.heap.get? b = some o → H b = none → h'.get? b = some o)
    (slot : ∀ b o, b ≠ X.env.locals → b ∈ X.fs → b ∉ ch → s.heap.get? b = some o → H b = none → ∃ sl, h'.get? b = some { o with slots := sl }) (free : ∀ b o, b ∉ ch → s.heap.get? b = some o → H b = none → H' b = none)
    (there : ∀ b o, b ∉ ch → s.heap.get? b = some o → ∃ o', h'.get? b = some o')
    (tups : ∀ b xs, H b = some (.tup xs) → H' b = some (.tup xs)) (frzs : ∀ b o u, H b = some (.frz o u) → H' b = some (.frz o u)) (tbls : ∀ b ps, H b = some (.tbl ps) → ∃ more, H' b = some (.tbl (ps ++ more)))
    (ns : ∀ m, s.heap.Ns X.env.locals m → h'.Ns X.env.locals m) (hok : HOk X.prog X.w H' h') (hg : AllBare g') :
    Inv X pins σ H' { s with heap := h', gens := g', drawn := d', toks := t' } := by
  have neL : ∀ b o, X.s_0.heap.get? b = some o → b ≠ X.env.locals := fun b o e => Nat.ne_of_lt (Nat.lt_of_lt_of_le (Heap.lt_size e) I.ok.above)
  have neC : ∀ b o, X.s_0.heap.get? b = some o → b ∉ X.ex → b ∉ ch := fun b o e hx hb => by
    rcases (hch b hb).1 with z | z
    · exact hx z
    · exact absurd (Nat.lt_of_lt_of_le (Heap.lt_size e) z) (Nat.lt_irrefl _)
  have cellK : ∀ x c, X.env.cells.lookup x = some c → ∀ v, s.heap.IsCell c v → h'.IsCell c v := fun x c e v ⟨o, ho, hd⟩ => by
    have nch : c ∉ ch := fun z => (hch c z).2.2.1 x c e rfl
    by_cases hc : c ∈ X.fs
    · obtain ⟨sl, q⟩ := slot c o (I.cne x c e) hc nch ho (I.freeC x c e)
      exact ⟨_, q, hd⟩
    · exact ⟨o, keep c o (I.cne x c e) hc nch ho (I.freeC x c e), hd⟩
  refine ⟨I.ok, I.os, hg, ⟨fun b o e n hb hx => ?_, fun b o e n hb hx => ?_, fun b o e n hx => ?_, fun b o e hx => ?_, fun b xs e => tups b xs (I.base.tups b xs e), fun b o xs e => frzs b o xs (I.base.frzs b o xs e), fun b ps e => ?_⟩, ?_, fun x c e => ?_, ?_, fun x c e => ?_, fun p hp => ?_, hok, I.len⟩
  · exact keep b o (neL b o e) hb (neC b o e hx) (I.base.keep b o e n hb hx) (I.base.free b o e n hx)
  · obtain ⟨sl, e1⟩ := I.base.slot b o e n hb hx
    obtain ⟨sl', e2⟩ := slot b _ (neL b o e) hb (neC b o e hx) e1 (I.base.free b o e n hx)
    exact ⟨sl', e2⟩
  · obtain ⟨o', e1⟩ := I.base.there b o e hx
    exact free b o' (neC b o e hx) e1 (I.base.free b o e n hx)
  · obtain ⟨o', e1⟩ := I.base.there b o e hx
    exact there b o' (neC b o e hx) e1
  · obtain ⟨m1, e1⟩ := I.base.tbls b ps e
    obtain ⟨m2, e2⟩ := tbls b _ e1
    exact ⟨m1 ++ m2, by rw [e2, Array.append_assoc]⟩
  · obtain ⟨m, hn, hl⟩ := I.loc
    refine ⟨m, ns m hn, fun i x v e1 e2 e3 => ?_⟩
    obtain ⟨u, r, l⟩ := hl i x v e1 e2 e3
    refine ⟨u, r, ?_⟩
    rcases l with l | ⟨k, c, e, z⟩
    · exact .inl l
    · exact .inr ⟨k, c, e, cellK x c e _ z⟩
  · obtain ⟨v, z⟩ := I.cell x c e
    exact ⟨v, cellK x c e v z⟩
  · obtain ⟨m, ⟨o, _, _, ho, _⟩, _⟩ := I.loc
    exact free _ o (fun z => (hch _ z).2.1 rfl) ho I.free
  · obtain ⟨v, o, ho, hd⟩ := I.cell x c e
    exact free c o (fun z => (hch c z).2.2.1 x c e rfl) ho (I.freeC x c e)
  · obtain ⟨e, n, ne, nf, d⟩ := I.pin p hp
    have nch : p.1 ∉ ch := fun z => (hch p.1 z).2.2.2 p hp rfl
    exact ⟨keep p.1 p.2 ne nf nch e n, free p.1 p.2 nch e n, ne, nf, d⟩
/-- .. where the frame's own object is kept too -/
theorem Inv.un {t' : Nat} (I : Inv X pins σ H s) (u : Un X.fs [] H H' s.heap h') (hok : HOk X.prog X.w H' h') : Inv X pins σ H' { s with heap := h', toks := t' } := by
  obtain ⟨m, ⟨o, es, ep, ho, r⟩, _⟩ := id I.loc
  obtain ⟨sl, hL⟩ := u.any ho I.free (by simp)
  exact I.step (g' := s.gens) (d' := s.drawn) (ch := []) (fun _ z => nomatch z) (fun b o _ hb _ e n => u.keep b o e n hb (by simp)) (fun b o _ hb _ e n => u.slot b o e n hb (by simp)) (fun b o _ e n => u.free b o e n (by simp)) (fun b o _ e => u.there b o e (by simp)) u.tups u.frzs u.tbls (fun m' hm => by
    obtain ⟨o', es', ep', ho', r'⟩ := hm
    rw [ho] at ho'; cases ho'
    exact ⟨_, es', ep', hL, r'⟩) hok I.bare
/-- behind a call (or a comprehension's block): the slots of this frame may have changed too, the records at ch may have turned -/
theorem Inv.call {g' : Array GenState} {t' : Nat} {d' : Drawn} {ch : List Addr} (I : Inv X pins σ H s) (u : Un (frs X.stack) ch H H' s.heap h') (hok : HOk X.prog X.w H' h') (hg : AllBare g')
    (hch : ∀ b ∈ ch, (b ∈ X.ex ∨ X.s_0.heap.objs.size ≤ b) ∧ b ≠ X.env.locals ∧ (∀ x c, X.env.cells.lookup x = some c → c ≠ b) ∧ ∀ p ∈ X.pn ++ pins, p.1 ≠ b) :
    Inv X pins σ H' { s with heap := h', gens := g', drawn := d', toks := t' } := by
  obtain ⟨m, ⟨o, es, ep, ho, r⟩, _⟩ := id I.loc
  obtain ⟨sl, hL⟩ := u.any ho I.free fun z => (hch _ z).2.1 rfl
  exact I.step (ch := ch) hch (fun b o hL hb hc e n => u.keep b o e n (fun z => (List.mem_cons.mp (I.stkSub b z)).elim hL hb) hc) (fun b o _ _ hc e n => u.any e n hc) (fun b o hc e n => u.free b o e n hc) (fun b o hc e => u.there b o e hc) u.tups u.frzs u.tbls (fun m' hm => by
    obtain ⟨o', es', ep', ho', r'⟩ := hm
    rw [ho] at ho'; cases ho'
    exact ⟨_, es', ep', hL, r'⟩) hok hg
/-- an untracked record of ours (an iterator) has turned -/
theorem Inv.turned {t' : Nat} {it : Addr} (I : Inv X pins σ H s) (k : ∀ b o, b ≠ it → s.heap.get? b = some o → h'.get? b = some o) (hn : H it = none) (hL : it ≠ X.env.locals)
    (h1 : it ∈ X.ex ∨ X.s_0.heap.objs.size ≤ it) (h2 : ∀ x c, X.env.cells.lookup x = some c → c ≠ it) (h3 : ∀ p ∈ X.pn ++ pins, p.1 ≠ it) : Inv X pins σ H { s with heap := h', toks := t' } := by
  have nit : ∀ b u, H b = some u → b ≠ it := fun b u e z => by rw [z, hn] at e; cases e
  refine I.step (g' := s.gens) (d' := s.drawn) (ch := [it]) (fun b hb => ?_) (fun b o _ _ hc e _ => k b o (fun z => hc (by simp [z])) e) (fun b o _ _ hc e _ => ⟨o.slots, k b o (fun z => hc (by simp [z])) e⟩) (fun _ _ _ _ n => n)
    (fun b o hc e => ⟨o, k b o (fun z => hc (by simp [z])) e⟩) (fun _ _ e => e) (fun _ _ _ e => e) (fun b ps e => ⟨#[], by rw [e]; simp⟩) (fun m hm => ?_) (fun b u e => ?_) I.bare
  · have e : b = it := by simpa using hb
    subst e
    exact ⟨h1, hL, h2, h3⟩
  · obtain ⟨o, es, ep, ho, r⟩ := hm
    exact ⟨o, es, ep, k _ o (Ne.symm hL) ho, r⟩
  · refine (I.hok b u e).stay (fun c v hc q => k c v ?_ q) (fun _ q => q) fun _ _ q => q
    rcases hc with z | z
    · rw [z]; exact nit b u e
    · exact nit c _ z
theorem Inv.tok (I : Inv X pins σ H s) (t : Nat) : Inv X pins σ H { s with toks := t } := I.un (h' := s.heap) (t' := t) Un.refl I.hok
/-- all objects kept -/
theorem Inv.kept {t' : Nat} (I : Inv X pins σ H s) (k : ∀ b u, s.heap.get? b = some u → h'.get? b = some u) : Inv X pins σ H { s with heap := h', toks := t' } := I.un (Un.kept k) (I.hok.kept k)
/-- a new object laid and tracked -/
theorem Inv.laid {a : Addr} {o : HO} {t' : Nat} (I : Inv X pins σ H s) (k : ∀ b u, s.heap.get? b = some u → h'.get? b = some u) (hp : s.heap.objs.size ≤ a) (new : ObjOk X.prog X.w (upd H a o) h' a o) :
    Inv X pins σ (upd H a o) { s with heap := h', toks := t' } := I.un (Un.laid k hp (I.hok.fresh hp)) (I.hok.laid k hp new)
/-- an object written -/
theorem Inv.write {x e : Addr} {o : HO} {t' : Nat} (I : Inv X pins σ H s) (mu : Mut (H x)) (he : e = x ∨ H e = some (.own x)) (k : ∀ b u, b ≠ e → s.heap.get? b = some u → h'.get? b = some u) (heo : ∃ u, h'.get? e = some u)
    (new : ObjOk X.prog X.w (upd H x o) h' x o) : Inv X pins σ (upd H x o) { s with heap := h', toks := t' } := I.un (Un.write mu he k heo) (I.hok.write mu he k heo new)
/-- forgetting slots, pins -/
theorem Inv.weak {σ' : List (Option V)} (I : Inv X pins σ H s) (hl : σ'.length = σ.length) (w : ∀ (i : Nat) v, σ'[i]? = some (some v) → σ[i]? = some (some v)) : Inv X pins σ' H s :=
  ⟨I.ok, I.os, I.bare, I.base, let ⟨m, hn, hl'⟩ := I.loc; ⟨m, hn, fun i x v e1 e2 e3 => hl' i x v e1 (w i v e2) e3⟩, I.cell, I.free, I.freeC, I.pin, I.hok, hl.trans I.len⟩
theorem Inv.pins_of {pins' : List (Addr × Obj)} (I : Inv X pins σ H s) (h : ∀ p ∈ pins', s.heap.get? p.1 = some p.2 ∧ H p.1 = none ∧ p.1 ≠ X.env.locals ∧ p.1 ∉ X.fs ∧ ∀ v, p.2.data ≠ .cell v) : Inv X pins' σ H s :=
  ⟨I.ok, I.os, I.bare, I.base, I.loc, I.cell, I.free, I.freeC, fun p hp => (List.mem_append.mp hp).elim (fun z => I.pin p (List.mem_append_left _ z)) (h p), I.hok, I.len⟩

theorem nodup_ix {N : List Str} (hN : N.Nodup) {i j : Nat} {x : Str} (a : N[i]? = some x) (b : N[j]? = some x) : i = j := by
  obtain ⟨h1, e1⟩ := List.getElem?_eq_some_iff.mp a
  obtain ⟨h2, e2⟩ := List.getElem?_eq_some_iff.mp b
  exact (List.getElem_inj hN).mp (e1.trans e2.symm)

/-- a name is stored; what changed -/
theorem store_ok2 {M : Model} {A : Around} {E : Value → Shared → Prop} {i : Nat} {x : Str} {v : V} {u : Value} {Q : Unit → Shared → Prop} (I : Inv X pins σ H s) (hN : X.N.Nodup) (hi : X.N[i]? = some x) (hx : Loc X.env.scope x) (r : RelV v u)
    (h : ∀ s', Inv X pins (σ.set i (some v)) H s' → (∃ a, Heap.SameBut a s.heap s'.heap ∧ (a = X.env.locals ∨ X.env.cells.lookup x = some a)) → Q () s') (hf : X.fn x = true ∨ X.env.scope.names.lookup x = some .local := by first | exact .inl rfl | exact .inr rfl | assumption) : wpAny M A (storeName X.env x u) Q E s := by
  obtain ⟨m, hn, hl⟩ := id I.loc
  have hcls : (X.env.scope.kind == .class || (X.env.scope.kind == .module && X.env.locals != X.env.globals)) = false := by rw [I.ok.kind]; rfl
  have hiσ : i < σ.length := by rw [I.len]; exact (List.getElem?_eq_some_iff.mp hi).1
  have cne := I.cne
  have tracked : ∀ {a : Addr} {h' : Heap}, (∃ o, s.heap.get? a = some o ∧ H a = none) → Heap.SameBut a s.heap h' → HOk X.prog X.w H h' := fun {a h'} ha hs b ob e => by
    obtain ⟨_, _, hfree⟩ := ha
    refine (I.hok b ob e).stay (fun c w' hc q => (hs.2 c ?_).trans q) (fun _ q => q) fun _ _ q => q
    rintro rfl
    rcases hc with rfl | hc
    · rw [hfree] at e; cases e
    · rw [hfree] at hc; cases hc
  rcases hx with hk | hk
  · refine wpAny_storeName_local hk hn (fun h' hn' hs => ?_) hcls
    obtain ⟨oL, _, _, hoL, _⟩ := id hn
    refine h _ ⟨I.ok, I.os, I.bare, ⟨fun b o e n hb hx => ?_, fun b o e n hb hx => ?_, I.base.free, fun b o e hx => ?_, I.base.tups, I.base.frzs, I.base.tbls⟩, ⟨_, hn', fun j y v' e1 e2 e3 => ?_⟩, fun y c e => ?_, I.free, I.freeC, fun p hp => ?_, tracked ⟨oL, hoL, I.free⟩ hs, by simpa using I.len⟩ ⟨_, hs, .inl rfl⟩
    · exact (hs.2 b (Nat.ne_of_lt (Nat.lt_of_lt_of_le (Heap.lt_size e) I.ok.above))).trans (I.base.keep b o e n hb hx)
    · obtain ⟨sl, e1⟩ := I.base.slot b o e n hb hx
      exact ⟨sl, (hs.2 b (Nat.ne_of_lt (Nat.lt_of_lt_of_le (Heap.lt_size e) I.ok.above))).trans e1⟩
    · obtain ⟨o', e1⟩ := I.base.there b o e hx
      exact ⟨o', (hs.2 b (Nat.ne_of_lt (Nat.lt_of_lt_of_le (Heap.lt_size e) I.ok.above))).trans e1⟩
    · by_cases hj : j = i
      · subst hj
        rw [hi] at e1; cases e1
        rw [List.getElem?_set_self hiσ] at e2
        cases e2
        exact ⟨u, r, .inl ⟨hk, by simp⟩⟩
      · rw [List.getElem?_set_ne (Ne.symm hj)] at e2
        obtain ⟨u', r', q⟩ := hl j y v' e1 e2 e3
        refine ⟨u', r', ?_⟩
        rcases q with ⟨k, e⟩ | ⟨k, c, e, z⟩
        · refine .inl ⟨k, ?_⟩
          have : y ≠ x := fun e => hj (nodup_ix hN e1 (e ▸ hi))
          simp [this, e]
        · exact .inr ⟨k, c, e, z.sameBut hs (cne y c e)⟩
    · obtain ⟨w', z⟩ := I.cell y c e
      exact ⟨w', z.sameBut hs (cne y c e)⟩
    · obtain ⟨e, n, ne, nf, d⟩ := I.pin p hp
      exact ⟨(hs.2 p.1 ne).trans e, n, ne, nf, d⟩
  · have hfn : X.fn x = true := by
      rcases hf with z | z
      · exact z
      · rw [z] at hk; cases hk
    obtain ⟨c, hc⟩ := I.ok.has x (.inl hk)
    obtain ⟨w', z⟩ := I.cell x c hc
    refine wpAny_storeName_cell I.ok.kind hk hc z (fun h' hc' hs => ?_)
    obtain ⟨oc, hoc, hocd⟩ := id z
    refine h { s with heap := h' } ⟨I.ok, I.os, I.bare, ⟨fun b o e n hb hx => ?_, fun b o e n hb hx => ?_, I.base.free, fun b o e hx => ?_, I.base.tups, I.base.frzs, I.base.tbls⟩, ⟨m, hn.sameBut hs (Ne.symm (cne x c hc)), fun j y v' e1 e2 e3 => ?_⟩, fun y c' e => ?_, I.free, I.freeC, fun p hp => ?_, tracked ⟨oc, hoc, I.freeC x c hc⟩ hs, by simpa using I.len⟩ ⟨c, hs, .inr hc⟩
    · exact (hs.2 b (Nat.ne_of_lt (Nat.lt_of_lt_of_le (Heap.lt_size e) (I.ok.cab x c hfn hc)))).trans (I.base.keep b o e n hb hx)
    · obtain ⟨sl, e1⟩ := I.base.slot b o e n hb hx
      exact ⟨sl, (hs.2 b (Nat.ne_of_lt (Nat.lt_of_lt_of_le (Heap.lt_size e) (I.ok.cab x c hfn hc)))).trans e1⟩
    · obtain ⟨o', e1⟩ := I.base.there b o e hx
      exact ⟨o', (hs.2 b (Nat.ne_of_lt (Nat.lt_of_lt_of_le (Heap.lt_size e) (I.ok.cab x c hfn hc)))).trans e1⟩
    · by_cases hj : j = i
      · subst hj
        rw [hi] at e1; cases e1
        rw [List.getElem?_set_self hiσ] at e2
        cases e2
        exact ⟨u, r, .inr ⟨.inl hk, c, hc, hc'⟩⟩
      · rw [List.getElem?_set_ne (Ne.symm hj)] at e2
        obtain ⟨u', r', q⟩ := hl j y v' e1 e2 e3
        refine ⟨u', r', ?_⟩
        rcases q with q | ⟨k, c', e, z'⟩
        · exact .inl q
        · refine .inr ⟨k, c', e, z'.sameBut hs ?_⟩
          rintro rfl
          exact hj (nodup_ix hN e1 (I.ok.inj _ _ _ e hc ▸ hi))
    · by_cases hcc : c' = c
      · subst hcc; exact ⟨_, hc'⟩
      · obtain ⟨w2, z2⟩ := I.cell y c' e
        exact ⟨w2, z2.sameBut hs hcc⟩
    · obtain ⟨e, n, ne, nf, d⟩ := I.pin p hp
      refine ⟨(hs.2 p.1 ?_).trans e, n, ne, nf, d⟩
      intro q
      rw [q, hoc] at e
      have q' : oc = p.2 := Option.some.inj e
      exact d w' (by rw [← q']; exact hocd)
theorem store_ok {M : Model} {A : Around} {E : Value → Shared → Prop} {i : Nat} {x : Str} {v : V} {u : Value} {Q : Unit → Shared → Prop} (I : Inv X pins σ H s) (hN : X.N.Nodup) (hi : X.N[i]? = some x) (hx : Loc X.env.scope x) (r : RelV v u)
    (h : ∀ s', Inv X pins (σ.set i (some v)) H s' → Q () s') (hf : X.fn x = true ∨ X.env.scope.names.lookup x = some .local := by first | exact .inl rfl | exact .inr rfl | assumption) : wpAny M A (storeName X.env x u) Q E s :=
  store_ok2 I hN hi hx r (fun s' I' _ => h s' I') hf
/-- behind a call or a block, the state as it is -/
theorem Inv.call' {s' : Shared} {ch : List Addr} (I : Inv X pins σ H s) (ho : s'.os = s.os) (u : Un (frs X.stack) ch H H' s.heap s'.heap) (hok : HOk X.prog X.w H' s'.heap) (hg : AllBare s'.gens)
    (hch : ∀ b ∈ ch, (b ∈ X.ex ∨ X.s_0.heap.objs.size ≤ b) ∧ b ≠ X.env.locals ∧ (∀ x c, X.env.cells.lookup x = some c → c ≠ b) ∧ ∀ p ∈ X.pn ++ pins, p.1 ≠ b) : Inv X pins σ H' s' := by
  obtain ⟨h', g', d', t', o'⟩ := s'
  have e : o' = s.os := ho
  subst e
  exact I.call (g' := g') (t' := t') (d' := d') u hok hg hch
end

/-- an exception: its class, its own dict's address (where it has one), the abstract heap behind it -/
abbrev XK := Value → Option Addr → Hp → Prop
abbrev St := List (Option V)
abbrev VK := V → Hp → Prop
/-- an expression's reading; a test's; an argument list's -/
abbrev TE := St → Hp → VK → Prop
abbrev TT := St → Hp → (Bool → Hp → Prop) → Prop
abbrev TA := St → Hp → (List V → Hp → Prop) → Prop
/-- what is wanted behind a statement -/
structure Ends where
  nx : St → Hp → Prop
  rt : VK
  bk : St → Hp → Prop := fun _ _ => False
  ct : St → Hp → Prop := fun _ _ => False
abbrev TS := Ends → St → Hp → Prop

def EP (X : Cx) (pins : List (Addr × Obj)) (σ : St) (Q : VK) (u : Value) (s' : Shared) : Prop := ∃ v H', Inv X pins σ H' s' ∧ RelV v u ∧ Q v H'
def TP (X : Cx) (pins : List (Addr × Obj)) (σ : St) (Q : Bool → Hp → Prop) (b : Bool) (s' : Shared) : Prop := ∃ H', Inv X pins σ H' s' ∧ Q b H'
def AP (X : Cx) (pins : List (Addr × Obj)) (σ : St) (Q : List V → Hp → Prop) (us : List Value) (s' : Shared) : Prop := ∃ vs H', Inv X pins σ H' s' ∧ Vals vs us ∧ Q vs H'
def SP (X : Cx) (pins : List (Addr × Obj)) (D : Ends) (f : Flow) (s' : Shared) : Prop :=
  match f with
  | .next => ∃ σ' H', Inv X pins σ' H' s' ∧ D.nx σ' H'
  | .brk => ∃ σ' H', Inv X pins σ' H' s' ∧ D.bk σ' H'
  | .cont => ∃ σ' H', Inv X pins σ' H' s' ∧ D.ct σ' H'
  | .ret u => ∃ v σ' H', Inv X pins σ' H' s' ∧ RelV v u ∧ D.rt v H'

def PE (X : Cx) (e : Expr) (t : TE) : Prop :=
  ∀ (pins : List (Addr × Obj)) (s : Shared) (σ : St) (H : Hp) (Q : VK), Inv X pins σ H s → t σ H Q → wpAny (model X.prog X.w) X.A (eval e X.env) (EP X pins σ Q) X.xe s
def PT (X : Cx) (e : Expr) (t : TT) : Prop :=
  ∀ (pins : List (Addr × Obj)) (s : Shared) (σ : St) (H : Hp) (Q : Bool → Hp → Prop), Inv X pins σ H s → t σ H Q → wpAny (model X.prog X.w) X.A (isTrue e X.env (eval e X.env)) (TP X pins σ Q) X.xe s
/-- a test whatever its 'whole' is (and, or) -/
def PW (X : Cx) (e : Expr) (t : TT) : Prop :=
  ∀ (whole : Sem Value) (pins : List (Addr × Obj)) (s : Shared) (σ : St) (H : Hp) (Q : Bool → Hp → Prop), Inv X pins σ H s → t σ H Q → wpAny (model X.prog X.w) X.A (isTrue e X.env whole) (TP X pins σ Q) X.xe s
theorem PW.pt {X : Cx} {e : Expr} {t : TT} (h : PW X e t) : PT X e t := h _
/-- an argument list (no star), from the left -/
def PA (X : Cx) (es : List Expr) (t : TA) : Prop :=
  ∀ (pos : Pos) (pins : List (Addr × Obj)) (s : Shared) (σ : St) (H : Hp) (Q : List V → Hp → Prop), Inv X pins σ H s → t σ H Q → wpAny (model X.prog X.w) X.A (spliced (backTo pos (starEach es X.env))) (AP X pins σ Q) X.xe s
def PS (X : Cx) (st : Stmt) (t : TS) : Prop :=
  ∀ (pins : List (Addr × Obj)) (s : Shared) (σ : St) (H : Hp) (D : Ends), Inv X pins σ H s → t D σ H → wpAny (model X.prog X.w) X.A (exec st X.env) (SP X pins D) X.xe s
def PSs (X : Cx) (st : List Stmt) (t : TS) : Prop :=
  ∀ (pins : List (Addr × Obj)) (s : Shared) (σ : St) (H : Hp) (D : Ends), Inv X pins σ H s → t D σ H → wpAny (model X.prog X.w) X.A (execs st X.env) (SP X pins D) X.xe s
/-- weaken the end -/
theorem thn {α : Type} {t : Sem α} {Q Q' : α → Shared → Prop} {M : Model} {A : Around} {E : Value → Shared → Prop} {s : Shared} (h : wpAny M A t Q E s) (hQ : ∀ a s, Q a s → Q' a s) : wpAny M A t Q' E s := wpAny_mono h hQ fun _ _ x => x
end L2

namespace L2
open PySem PySem.Spec PyProof.Rows
section
variable {X : Cx}

/-- two expressions in a row -/
theorem bin {a b : Expr} {ta tb : TE} (ha : PE X a ta) (hb : PE X b tb) {pins : List (Addr × Obj)} {s : Shared} {σ : St} {H : Hp} {R : V → V → Hp → Prop} (I : Inv X pins σ H s) (h : ta σ H fun x H1 => tb σ H1 fun y H2 => R x y H2)
    {α : Type} {Q : α → Shared → Prop} {f : Value → Value → Sem α}
    (hf : ∀ v u s2 x y H2, Inv X pins σ H2 s2 → RelV x v → RelV y u → R x y H2 → wpAny (model X.prog X.w) X.A (f v u) Q X.xe s2) :
    wpAny (model X.prog X.w) X.A (eval a X.env) (fun v s₁ => wpAny (model X.prog X.w) X.A (eval b X.env) (fun u s₂ => wpAny (model X.prog X.w) X.A (f v u) Q X.xe s₂) X.xe s₁) X.xe s := by
  refine thn (ha pins s σ H _ I h) fun v s1 ⟨x, H1, I1, r1, q1⟩ => ?_
  refine thn (hb pins s1 σ H1 _ I1 q1) fun u s2 ⟨y, H2, I2, r2, q2⟩ => ?_
  exact hf v u s2 x y H2 I2 r1 r2 q2

def tVar (i : Nat) : TE := fun σ H Q => ∃ v, σ[i]? = some (some v) ∧ Q v H
def tC (v : V) : TE := fun _ H Q => Q v H
theorem pe_var {i : Nat} {x : Str} {pos : Pos} (hN : X.N[i]? = some x) (hv : Vis X.env.scope x) (hd : (x == ("__debug__" : Str)) = false := by decide) (hcd : (x == ("__classdict__" : Str)) = false := by decide) : PE X (.Name x pos) (tVar i) := by
  intro pins s σ H Q I h
  obtain ⟨v, e, h⟩ := h
  obtain ⟨m, hn, hl⟩ := I.loc
  obtain ⟨u, r, l⟩ := hl i x v hN e hv
  have fin : EP X pins σ Q u s := ⟨v, H, I, r, h⟩
  rcases l with ⟨hk, hm⟩ | ⟨hk, c, hc, hcell⟩
  · exact wpAny_Name (wpAny_loadName_local I.ok.kind hk hn hm fin) hd
  · rcases hk with hk | hk
    · exact wpAny_Name (wpAny_loadName_cell I.ok.kind hk hc hcell fin) hd
    · exact wpAny_Name (wpAny_loadName_free I.ok.kind hk hc hcell fin hcd) hd
theorem pe_int {i j pos} : PE X (.Constant (.int i) j pos) (tC (.int i)) := fun _ _ _ H _ I h => wpAny_Constant_int ⟨.int i, H, I.tok _, ⟨_, rfl⟩, h⟩
theorem pe_bl {b j pos} : PE X (.Constant (.bool b) j pos) (tC (.bl b)) := fun _ _ _ H _ I h => Constant_bool ⟨.bl b, H, I, rfl, h⟩
/-- a global name of the def -/
def Gl (X : Cx) (x : Str) : Prop := X.env.kindOf x = some .globalImplicit
theorem ld_glob {E : Value → Shared → Prop} {pins : List (Addr × Obj)} {s : Shared} {σ : St} {H : Hp} {x : Str} {u : Value} {pos : Pos} {Q : Value → Shared → Prop} (I : Inv X pins σ H s) (hg : Gl X x) (hm : X.mg x = some u) (h : Q u s)
    (hd : (x == ("__debug__" : Str)) = false := by decide) : wpAny (model X.prog X.w) X.A (eval (.Name x pos) X.env) Q E s :=
  Calls.Name_function_global I.ok.kind hg (Calls.loadGlobal_global (by rw [I.ok.glob]; exact I.mod.glob.keeps I.bk) hm h) hd
theorem ld_blt {E : Value → Shared → Prop} {pins : List (Addr × Obj)} {s : Shared} {σ : St} {H : Hp} {x : Str} {u : Value} {pos : Pos} {Q : Value → Shared → Prop} (I : Inv X pins σ H s) (hg : Gl X x) (hm : X.mg x = none) (hv : bootBuiltins x = some u) (h : Q u s)
    (hn : x ≠ "__name__" := by decide) (hd : (x == ("__debug__" : Str)) = false := by decide) : wpAny (model X.prog X.w) X.A (eval (.Name x pos) X.env) Q E s := by
  obtain ⟨mb, h1, h2⟩ := I.mod.blt
  exact Calls.Name_function_global I.ok.kind hg (Calls.loadGlobal_builtin (by rw [I.ok.glob]; exact I.mod.glob.keeps I.bk) hm (by rw [I.ok.blt]; exact h1.keeps I.bk) ((h2 x hn).trans hv) h) hd
/-- a module's constant, a class, a function, as a value -/
theorem pe_glob {x : Str} {v : V} {u : Value} {pos : Pos} (hg : Gl X x) (hm : X.mg x = some u) (r : RelV v u) (hd : (x == ("__debug__" : Str)) = false := by decide) : PE X (.Name x pos) (tC v) :=
  fun _ _ _ H _ I h => ld_glob I hg hm ⟨v, H, I, r, h⟩ hd
variable {a b : Expr} {ta tb : TE} {pos : Pos}
def PC (X : Cx) (op : CmpOp) (a b : Expr) (t : TE) : Prop :=
  ∀ (pins : List (Addr × Obj)) (s : Shared) (σ : St) (H : Hp) (Q : VK), Inv X pins σ H s → t σ H Q →
    wpAny (model X.prog X.w) X.A (eval a X.env) (fun v s₁ => wpAny (model X.prog X.w) X.A (eval b X.env) (fun u s₂ => wpAny (model X.prog X.w) X.A (compareOp op v u) (EP X pins σ Q) X.xe s₂) X.xe s₁) X.xe s
/-- a comparison as a value, as a test -/
def tB (t : TE) : TT := fun σ H Q => t σ H fun x H1 => ∃ c, x = .bl c ∧ Q c H1
theorem pt_cmp {op : CmpOp} {t : TE} (h : PC X op a b t) (h1 : behindInMarks op b = false := by first | exact nobehind _ (by decide) (by decide) | rfl) : PT X (.Compare a [op] [b] pos) (tB t) := by
  intro pins s σ H Q I hw
  refine wpAny_isTrue_Compare1 (thn (h pins s σ H _ I hw) fun v s1 h1 => thn h1 fun u s2 h2 => thn h2 fun c s3 ⟨x, H1, I1, r1, q1⟩ => ?_) h1
  obtain ⟨d, rfl, q⟩ := q1
  cases r1
  exact wpAny_truthy_bool ⟨H1, I1, q⟩
/-- an expression whose value is a bool, as a test -/
theorem pt_val {e : Expr} {t : TE} (h : PE X e t) (he : ∀ whole, isTrue e X.env whole = (do let v ← whole; standAt e.pos; holding [v] (truthy v)) := by intro _; rfl) : PT X e (tB t) := by
  intro pins s σ H Q I hw
  refine isTrue_plain (thn (h pins s σ H _ I hw) fun v s1 ⟨x, H1, I1, r1, q1⟩ => ?_) (he _)
  obtain ⟨d, rfl, q⟩ := q1
  cases r1
  exact wpAny_truthy_bool ⟨H1, I1, q⟩

variable {tA tB' : TT} {rest : List Expr}
def tAnd (t u : TT) : TT := fun σ H Q => t σ H fun c H1 => if c = true then u σ H1 Q else Q false H1
def tOr (t u : TT) : TT := fun σ H Q => t σ H fun c H1 => if c = true then Q true H1 else u σ H1 Q
def tNot (t : TT) : TT := fun σ H Q => t σ H fun c H1 => Q (!c) H1
theorem pw_and1 (ha : PT X a tA) : PW X (.BoolOp .And [a] pos) tA := by
  intro wh pins s σ H Q I h
  refine isTrue_and (thn (ha pins s σ H Q I h) fun c s1 e => ?_)
  cases c with
  | true => exact isTrue_and_nil e
  | false => exact e
theorem pw_or1 (ha : PT X a tA) : PW X (.BoolOp .Or [a] pos) tA := by
  intro wh pins s σ H Q I h
  refine isTrue_or (thn (ha pins s σ H Q I h) fun c s1 e => ?_)
  cases c with
  | false => exact isTrue_or_nil e
  | true => exact e
theorem pw_and (ha : PT X a tA) (hb : PW X (.BoolOp .And (b :: rest) pos) tB') : PW X (.BoolOp .And (a :: b :: rest) pos) (tAnd tA tB') := by
  intro wh pins s σ H Q I h
  refine isTrue_and (thn (ha pins s σ H _ I h) fun c s1 ⟨H1, I1, q1⟩ => ?_)
  cases c with
  | true => exact hb wh pins s1 σ H1 Q I1 q1
  | false => exact ⟨H1, I1, q1⟩
theorem pw_or (ha : PT X a tA) (hb : PW X (.BoolOp .Or (b :: rest) pos) tB') : PW X (.BoolOp .Or (a :: b :: rest) pos) (tOr tA tB') := by
  intro wh pins s σ H Q I h
  refine isTrue_or (thn (ha pins s σ H _ I h) fun c s1 ⟨H1, I1, q1⟩ => ?_)
  cases c with
  | true => exact ⟨H1, I1, q1⟩
  | false => exact hb wh pins s1 σ H1 Q I1 q1
theorem pt_not (ha : PT X a tA) : PT X (.UnaryOp .Not a pos) (tNot tA) := by
  intro pins s σ H Q I h
  exact isTrue_not (ha pins s σ H (fun c H1 => Q (!c) H1) I h)
/-- .. as values (bools) -/
def tAndV (ta tb : TE) : TE := fun σ H Q => ta σ H fun x H1 => ∃ c, x = .bl c ∧ if c = true then tb σ H1 Q else Q (.bl false) H1
def tOrV (ta tb : TE) : TE := fun σ H Q => ta σ H fun x H1 => ∃ c, x = .bl c ∧ if c = true then Q (.bl true) H1 else tb σ H1 Q
def tNotV (ta : TE) : TE := fun σ H Q => ta σ H fun x H1 => ∃ c, x = .bl c ∧ Q (.bl (!c)) H1
theorem pe_one {op} {t : TE} (h : PE X a t) : PE X (.BoolOp op [a] pos) t := fun pins s σ H Q I hw => BoolOp_one (h pins s σ H Q I hw)
theorem pe_and (ha : PE X a ta) (hb : PE X (.BoolOp .And (b :: rest) pos) tb) : PE X (.BoolOp .And (a :: b :: rest) pos) (tAndV ta tb) := by
  intro pins s σ H Q I h
  refine BoolOp_and (thn (ha pins s σ H _ I h) fun v s1 ⟨x, H1, I1, r1, q1⟩ => ?_)
  obtain ⟨c, rfl, q1⟩ := q1
  cases r1
  refine wpAny_truthy_bool ?_
  cases c with
  | true => exact hb pins s1 σ H1 Q I1 q1
  | false => exact ⟨.bl false, H1, I1, rfl, q1⟩
theorem pe_or (ha : PE X a ta) (hb : PE X (.BoolOp .Or (b :: rest) pos) tb) : PE X (.BoolOp .Or (a :: b :: rest) pos) (tOrV ta tb) := by
  intro pins s σ H Q I h
  refine BoolOp_or (thn (ha pins s σ H _ I h) fun v s1 ⟨x, H1, I1, r1, q1⟩ => ?_)
  obtain ⟨c, rfl, q1⟩ := q1
  cases r1
  refine wpAny_truthy_bool ?_
  cases c with
  | false => exact hb pins s1 σ H1 Q I1 q1
  | true => exact ⟨.bl true, H1, I1, rfl, q1⟩
theorem pe_not (ha : PE X a ta) : PE X (.UnaryOp .Not a pos) (tNotV ta) := by
  intro pins s σ H Q I h
  refine UnaryOp_ (thn (ha pins s σ H _ I h) fun v s1 ⟨x, H1, I1, r1, q1⟩ => ?_)
  obtain ⟨c, rfl, q1⟩ := q1
  cases r1
  exact not_of (wpAny_truthy_bool ⟨.bl (!c), H1, I1, rfl, q1⟩)
/-- a if t else b -/
def tIf (t : TT) (ta tb : TE) : TE := fun σ H Q => t σ H fun c H1 => if c = true then ta σ H1 Q else tb σ H1 Q
theorem pe_ifExp {c : Expr} (hc : PT X c tA) (ha : PE X a ta) (hb : PE X b tb) : PE X (.IfExp c a b pos) (tIf tA ta tb) := by
  intro pins s σ H Q I h
  refine wpAny_IfExp (thn (hc pins s σ H _ I h) fun d s1 ⟨H1, I1, q1⟩ => ?_)
  cases d with
  | true => exact ha pins s1 σ H1 Q I1 q1
  | false => exact hb pins s1 σ H1 Q I1 q1
end
end L2

namespace L2
open PySem PySem.Spec PyProof.Rows

def SqL (K : PySem.W.Frag) (H : Hp) (a : Addr) (xs : List V) : Prop :=
  Rd H a (.lst xs) ∨
    ∃ (o : Obj) (its : Array Value) (n : Nat), K.lookup a = some o ∧ o.cls = .type "list" ∧ o.dict = none ∧ o.data = .seq its n ∧ its.size ≤ sizeLine ∧ Vals xs its.toList
def SqT (K : PySem.W.Frag) (H : Hp) (a : Addr) (xs : List V) : Prop :=
  Rd H a (.tup xs) ∨
    ∃ (o : Obj) (its : Array Value) (n : Nat), K.lookup a = some o ∧ o.cls = .type "tuple" ∧ o.data = .seq its n ∧ its.size ≤ sizeLine ∧ Vals xs its.toList
def absV : Value → Option V
  | .none => some .non
  | .bool b => some (.bl b)
  | .int i _ => some (.int i)
  | .str x _ => some (.str x)
  | .bytes b _ => some (.byt b)
  | .float b _ => some (.flt b)
  | .ref a => some (.ref a)
  | .type n => some (.ty n)
  | _ => none
theorem RelV.abs {x : V} {u : Value} (r : RelV x u) : absV u = some x := by
  cases x with
  | non => cases r; rfl
  | bl _ => cases r; rfl
  | int _ => obtain ⟨t, rfl⟩ := r; rfl
  | str _ => obtain ⟨t, rfl⟩ := r; rfl
  | byt _ => obtain ⟨t, rfl⟩ := r; rfl
  | flt _ => obtain ⟨t, rfl⟩ := r; rfl
  | ref _ => cases r; rfl
  | ty _ => cases r; rfl
theorem RelV.inj {x y : V} {u : Value} (r : RelV x u) (q : RelV y u) : x = y := Option.some.inj (r.abs.symm.trans q.abs)
theorem Vals.inj : ∀ {xs ys : List V} {us : List Value}, Vals xs us → Vals ys us → xs = ys
  | _, _, _, .nil, .nil => rfl
  | _, _, _, .cons r t, .cons r' t' => by rw [r.inj r', Vals.inj t t']
section
variable {X : Cx} {pins : List (Addr × Obj)} {σ : St} {H : Hp} {s : Shared} {a : Addr} {xs ys : List V}
theorem SqL.of {K : PySem.W.Frag} (h : H a = some (.lst xs)) : SqL K H a xs := .inl (.inl h)
theorem SqT.of {K : PySem.W.Frag} (h : H a = some (.tup xs)) : SqT K H a xs := .inl (.inl h)
theorem Inv.list (I : Inv X pins σ H s) (h : SqL X.K H a xs) : ∃ its : List Value, Vals xs its ∧ PlainL s.heap a its.toArray ∧ xs.length ≤ sizeLine := by
  rcases h with h | ⟨o, its, n, hk, hc, hd, hs, hz, r⟩
  · obtain ⟨z, its, n, r, e⟩ := h.ok I.hok
    exact ⟨its, r, ⟨_, n, e, rfl, rfl, rfl⟩, z⟩
  · refine ⟨its.toList, r, ⟨o, n, I.kIn a o hk, hc, hd, by simpa using hs⟩, ?_⟩
    have e := r.length
    simp only [Array.length_toList] at e
    omega
theorem Inv.tuple (I : Inv X pins σ H s) (h : SqT X.K H a xs) : ∃ its : List Value, Vals xs its ∧ IsTup s.heap a its.toArray ∧ xs.length ≤ sizeLine := by
  rcases h with h | ⟨o, its, n, hk, hc, hs, hz, r⟩
  · obtain ⟨z, its, r, p⟩ := h.ok I.hok
    exact ⟨its, r, p, z⟩
  · refine ⟨its.toList, r, ⟨o, I.kIn a o hk, hc, n, by simpa using hs⟩, ?_⟩
    have e := r.length
    simp only [Array.length_toList] at e
    omega
theorem Inv.list_inj (I : Inv X pins σ H s) (h : SqL X.K H a xs) (h' : SqL X.K H a ys) : xs = ys := by
  obtain ⟨its, r, ⟨o, n, e, _, _, d⟩, _⟩ := I.list h
  obtain ⟨its', r', ⟨o', n', e', _, _, d'⟩, _⟩ := I.list h'
  rw [e] at e'; cases e'
  rw [d] at d'
  injection d' with d1 _
  have : its = its' := by simpa using congrArg Array.toList d1
  subst this
  exact r.inj r'
end

abbrev Cx.wish (X : Cx) (E : Value → Shared → Prop) : Cx := { X with xe := E }
/-- no exception leaves -/
abbrev Cx.nox (X : Cx) : Cx := X.wish fun _ _ => False
theorem Cx.Ok.wish {X : Cx} (ok : X.Ok) (E : Value → Shared → Prop) : (X.wish E).Ok :=
  ⟨ok.mod, ok.kind, ok.glob, ok.blt, ok.above, ok.inj, ok.has, ok.cab, ok.hd, ok.frames, ok.stk, ok.exf, ok.bs, ok.bsz, ok.noex, ok.exfs, ok.funs, ok.frf⟩
theorem Cx.Ok.unwish {X : Cx} {E : Value → Shared → Prop} (ok : (X.wish E).Ok) : X.Ok :=
  ⟨ok.mod, ok.kind, ok.glob, ok.blt, ok.above, ok.inj, ok.has, ok.cab, ok.hd, ok.frames, ok.stk, ok.exf, ok.bs, ok.bsz, ok.noex, ok.exfs, ok.funs, ok.frf⟩
section
variable {X : Cx} {pins : List (Addr × Obj)} {σ : St} {H : Hp} {s : Shared} {E : Value → Shared → Prop}
theorem Inv.wish (I : Inv X pins σ H s) (E : Value → Shared → Prop) : Inv (X.wish E) pins σ H s := ⟨I.ok.wish E, I.os, I.bare, I.base, I.loc, I.cell, I.free, I.freeC, I.pin, I.hok, I.len⟩
theorem Inv.unwish (I : Inv (X.wish E) pins σ H s) : Inv X pins σ H s := ⟨I.ok.unwish, I.os, I.bare, I.base, I.loc, I.cell, I.free, I.freeC, I.pin, I.hok, I.len⟩
theorem SP.unwish {D : Ends} {f : Flow} {s' : Shared} (h : SP (X.wish E) pins D f s') : SP X pins D f s' := by
  cases f with
  | next => obtain ⟨σ', H', I, q⟩ := h; exact ⟨σ', H', I.unwish, q⟩
  | brk => obtain ⟨σ', H', I, q⟩ := h; exact ⟨σ', H', I.unwish, q⟩
  | cont => obtain ⟨σ', H', I, q⟩ := h; exact ⟨σ', H', I.unwish, q⟩
  | ret u => obtain ⟨v, σ', H', I, r, q⟩ := h; exact ⟨v, σ', H', I.unwish, r, q⟩
theorem PSs.nox {st : List Stmt} {t : TS} (h : PSs X.nox st t) : PSs X st t := fun pins s σ H D I hw =>
  wpAny_mono (h pins s σ H D (I.wish _) hw) (fun _ _ q => q.unwish) fun _ _ z => False.elim z
end

section
variable {X : Cx} {st : Stmt} {rest : List Stmt} {t u : TS} {e : Expr} {te : TE} {pos : Pos}
def tNext : TS := fun D σ H => D.nx σ H
def tSeq (t u : TS) : TS := fun D σ H => t { D with nx := u D } σ H
theorem pss_nil : PSs X [] tNext := fun _ _ σ H _ I h => wpAny_execs_nil ⟨σ, H, I, h⟩
theorem pss_cons (h1 : PS X st t) (h2 : PSs X rest u) : PSs X (st :: rest) (tSeq t u) := by
  intro pins s σ H D I h
  refine wpAny_execs_cons (thn (h1 pins s σ H { D with nx := u D } I h) fun f s1 q => ?_)
  cases f with
  | next =>
    obtain ⟨σ', H', I', q⟩ := q
    exact h2 pins s1 σ' H' D I' q
  | ret v => exact q
  | brk => exact q
  | cont => exact q
theorem pss_one (h1 : PS X st t) : PSs X [st] t := by
  intro pins s σ H D I h
  refine wpAny_execs_cons (thn (h1 pins s σ H D I h) fun f s1 q => ?_)
  cases f with
  | next => exact wpAny_execs_nil q
  | ret v => exact q
  | brk => exact q
  | cont => exact q
/-- in a def's body nothing is shown -/
theorem Inv.quiet {pins : List (Addr × Obj)} {σ : St} {H : Hp} {s : Shared} (I : Inv X pins σ H s) : interactive X.env = false := by simp [interactive, I.ok.kind]
/-- an expression whose value is dropped -/
def tDrop (te : TE) : TS := fun D σ H => te σ H fun _ H1 => D.nx σ H1
theorem ps_expr (he : PE X e te) (hs : swapsWith e none pos.line X.env = pure false := by rfl) : PS X (.Expr e pos) (tDrop te) := by
  intro pins s σ H D I h
  exact wpAny_Expr_any (thn (he pins s σ H _ I h) fun v s1 ⟨x, H1, I1, r1, q1⟩ => ⟨σ, H1, I1, q1⟩) I.quiet hs
def tRet (te : TE) : TS := fun D σ H => te σ H D.rt
theorem ps_ret (he : PE X e te) : PS X (.Return (some e) pos) (tRet te) := by
  intro pins s σ H D I h
  exact wpAny_Return_some (thn (he pins s σ H _ I h) fun v s1 ⟨x, H1, I1, r1, q1⟩ => ⟨x, σ, H1, I1, r1, q1⟩)
def tIfS (c : TT) (t u : TS) : TS := fun D σ H => c σ H fun b H1 => if b = true then t D σ H1 else u D σ H1
theorem ps_if {c : Expr} {a b : List Stmt} {tc : TT} (hc : PT X c tc) (ha : PSs X a t) (hb : PSs X b u) : PS X (.If c a b pos) (tIfS tc t u) := by
  intro pins s σ H D I h
  refine wpAny_If (thn (hc pins s σ H _ I h) fun d s1 ⟨H1, I1, q1⟩ => ?_)
  cases d with
  | true => exact ha pins s1 σ H1 D I1 q1
  | false => exact hb pins s1 σ H1 D I1 q1
/-- code that the proof never comes to -/
def tNever : TS := fun _ _ _ => False
theorem ps_never : PS X st tNever := fun _ _ _ _ _ _ h => h.elim
end

abbrev TG := V → St → Hp → (St → Hp → Prop) → Prop
def PG (X : Cx) (target : Expr) (t : TG) : Prop :=
  ∀ (pins : List (Addr × Obj)) (s : Shared) (σ : St) (H : Hp) (v : V) (u : Value) (Q : St → Hp → Prop), Inv X pins σ H s → RelV v u → t v σ H Q →
    wpAny (model X.prog X.w) X.A (assign target X.env u) (fun _ s' => ∃ σ' H', Inv X pins σ' H' s' ∧ Q σ' H') X.xe s
/-- o[i] = v, by values -/
abbrev TSet := V → V → V → Hp → (Hp → Prop) → Prop
def PSet (X : Cx) (t : TSet) : Prop :=
  ∀ (pins : List (Addr × Obj)) (s : Shared) (σ : St) (H : Hp) (o i v : V) (ov iv u : Value) (Q : Hp → Prop), Inv X pins σ H s → RelV o ov → RelV i iv → RelV v u → t o i v H Q →
    wpAny (model X.prog X.w) X.A (setItem ov iv u) (fun _ s' => ∃ H', Inv X pins σ H' s' ∧ Q H') X.xe s
section
variable {X : Cx} {pos : Pos}
def gName (i : Nat) : TG := fun v σ H Q => Q (σ.set i (some v)) H
theorem pg_name {i : Nat} {x : Str} (hN : X.N.Nodup) (hi : X.N[i]? = some x) (hx : Loc X.env.scope x) (hf : X.fn x = true ∨ X.env.scope.names.lookup x = some .local := by first | exact .inl rfl | exact .inr rfl | assumption) : PG X (.Name x pos) (gName i) := by
  intro pins s σ H v u Q I r h
  exact wpAny_assign_Name (store_ok I hN hi hx r (fun s' I' => ⟨_, H, I', h⟩) hf)
/-- o[i] = .. -/
def gSub (to ti : TE) (t : TSet) : TG := fun v σ H Q => to σ H fun o H1 => ti σ H1 fun i H2 => t o i v H2 fun H3 => Q σ H3
theorem pg_sub {o i : Expr} {to ti : TE} {t : TSet} (ho : PE X o to) (hi : PE X i ti) (hs : PSet X t)
    (ha : ∀ v, assign (.Subscript o i pos) X.env v = (do
      let ov ← holding [v] (eval o X.env)
      let iv ← holding [v, ov] (eval i X.env)
      standAt pos
      holding [v, ov, iv] (setItem ov iv v)
      release [v, ov, iv] []) := by intro _; rfl) : PG X (.Subscript o i pos) (gSub to ti t) := by
  intro pins s σ H v u Q I r h
  rw [ha]
  refine wpAny_bind (wpAny_holding (thn (ho pins s σ H _ I h) fun ov s1 ⟨x, H1, I1, r1, q1⟩ => ?_))
  refine wpAny_bind (wpAny_holding (thn (hi pins s1 σ H1 _ I1 q1) fun iv s2 ⟨y, H2, I2, r2, q2⟩ => ?_))
  refine wpAny_bind (wpAny_standAt (wpAny_bind (wpAny_holding (thn (hs pins s2 σ H2 x y v ov iv u _ I2 r1 r2 r q2) fun _ s3 ⟨H3, I3, q3⟩ => ?_))))
  exact wpAny_release ⟨σ, H3, I3, q3⟩
/-- target = value -/
def tAsg (te : TE) (g : TG) : TS := fun D σ H => te σ H fun x H1 => g x σ H1 D.nx
theorem ps_asg {tg e : Expr} {te : TE} {g : TG} (he : PE X e te) (hg : PG X tg g) (hs : swapsWithSole [tg] e pos.line X.env = pure false := by rfl) (hw : swappedStores [tg] e X.env = pure none := by rfl)
    (h1 : (assignEach [tg] X.env).map (·.2) = [assign tg X.env] := by rfl) : PS X (.Assign [tg] e pos) (tAsg te g) := by
  intro pins s σ H D I h
  refine wpAny_Assign_stores (thn (he pins s σ H _ I h) fun v s1 ⟨x, H1, I1, r1, q1⟩ => ?_) hs hw
  rw [h1]
  exact thn (hg pins s1 σ H1 x v _ I1 r1 q1) fun _ s2 q => q
/-- name = value -/
theorem ps_set {i : Nat} {x : Str} {e : Expr} {te : TE} {pos' : Pos} (hN : X.N.Nodup) (hi : X.N[i]? = some x) (hx : Loc X.env.scope x) (he : PE X e te) (hs : swapsWith e (some (.Name x pos')) pos.line X.env = pure false := by rfl) (hf : X.fn x = true ∨ X.env.scope.names.lookup x = some .local := by first | exact .inl rfl | exact .inr rfl | assumption) :
    PS X (.Assign [.Name x pos'] e pos) (tAsg te (gName i)) := by
  intro pins s σ H D I h
  refine wpAny_Assign_Name (thn (he pins s σ H _ I h) fun v s1 ⟨y, H1, I1, r1, q1⟩ => ?_) hs
  exact store_ok I1 hN hi hx r1 (fun s2 I2 => ⟨_, H1, I2, q1⟩) hf
end

section
variable {X : Cx} {pos : Pos}
/-- the invariant W with its measure -/
def tWhile (c : TT) (tb : TS) : TS := fun D σ H => ∃ W : Nat → St → Hp → Prop, (∃ m, W m σ H) ∧ ∀ m σ H, W m σ H →
  c σ H fun b H1 => if b = true then ∃ N : St → Hp → Prop, (∀ σ' H', N σ' H' → ∃ m', m' < m ∧ W m' σ' H') ∧ tb { D with nx := N, ct := N, bk := D.nx } σ H1 else D.nx σ H1
theorem ps_while {c : Expr} {body : List Stmt} {tc : TT} {tb : TS} (hp : PassesOwn (model X.prog X.w) X.A X.env X.xe) (hc : PT X c tc) (hb : PSs X body tb) : PS X (.While c body [] pos) (tWhile tc tb) := by
  intro pins s σ H D I h
  obtain ⟨W, ⟨m0, w0⟩, turn⟩ := h
  refine wpAny_While (codeAny_whileLoop (fun n s' => ∃ σ' H', Inv X pins σ' H' s' ∧ W n σ' H') ?_ m0 ⟨σ, H, I, w0⟩)
  rintro n s1 ⟨σ1, H1, I1, w1⟩
  refine wpAny_passesOwn hp (thn (hc pins s1 σ1 H1 _ I1 (turn n σ1 H1 w1)) fun b s2 ⟨H2, I2, q2⟩ => ?_)
  cases b with
  | true =>
    obtain ⟨N, hN, q2⟩ := q2
    rw [if_pos rfl]
    refine wpAny_passesOwn hp (thn (hb pins s2 σ1 H2 _ I2 q2) fun f s3 q3 => ?_)
    cases f with
    | next =>
      obtain ⟨σ3, H3, I3, n3⟩ := q3
      obtain ⟨m', hm, w3⟩ := hN σ3 H3 n3
      exact ⟨m', hm, σ3, H3, I3, w3⟩
    | cont =>
      obtain ⟨σ3, H3, I3, n3⟩ := q3
      obtain ⟨m', hm, w3⟩ := hN σ3 H3 n3
      exact ⟨m', hm, σ3, H3, I3, w3⟩
    | brk => exact q3
    | ret v => exact q3
  | false =>
    rw [if_neg Bool.false_ne_true]
    exact wpAny_execs_nil ⟨σ1, H2, I2, q2⟩
end

/-- at turn i: it yields x (the heap may grow), or it stops -/
structure It where
  go : Nat → Hp → Prop
  yld : Nat → Hp → V → Hp → Prop
  stop : Nat → Hp → Prop
/-- the iterator's own objects may turn: they are not the frame's, not pinned, younger than the entry (or a comprehension's own) -/
def FpOk (X : Cx) (pins : List (Addr × Obj)) (H : Hp) (b : Addr) : Prop :=
  H b = none ∧ b ≠ X.env.locals ∧ b ∉ X.fs ∧ (b ∈ X.ex ∨ X.s_0.heap.objs.size ≤ b) ∧ (∀ x c, X.env.cells.lookup x = some c → c ≠ b) ∧ ∀ p ∈ X.pn ++ pins, p.1 ≠ b
theorem Inv.fpOk {X : Cx} {pins : List (Addr × Obj)} {σ : St} {H H' : Hp} {s : Shared} {b : Addr} (I : Inv X pins σ H s) (hb : s.heap.objs.size ≤ b) (hn : H' b = none) : FpOk X pins H' b := by
  refine ⟨hn, Nat.ne_of_gt (Nat.lt_of_lt_of_le I.lt hb), I.nofs hb, .inr (Nat.le_trans I.sz hb), fun x c e z => ?_, fun p hp z => ?_⟩
  · obtain ⟨v, q⟩ := I.cell x c e
    exact absurd (Nat.lt_of_lt_of_le q.lt (by rw [z]; exact hb)) (Nat.lt_irrefl _)
  · exact absurd (Nat.lt_of_lt_of_le (Heap.lt_size (I.pin p hp).1) (by rw [z]; exact hb)) (Nat.lt_irrefl _)
structure Turn (P : Program) (w : World) (K : PySem.W.Frag) (tg : Expr) (J : It) (fp : List Addr) (it : Addr) (tn : Nat → Heap → Prop) : Prop where
  mem : it ∈ fp
  obj : ∀ i h, tn i h → ∀ b ∈ fp, ∃ o, h.get? b = some o ∧ ∀ v, o.data ≠ .cell v
  keep : ∀ i h h', tn i h → (∀ b ∈ fp, ∀ o, h.get? b = some o → h'.get? b = some o) → tn i h'
  item : ∀ (X : Cx), X.prog = P → X.w = w → X.K = K → X.calm = true → ∀ (i : Nat) (pins : List (Addr × Obj)) (s : Shared) (σ : St) (H : Hp) (E : Value → Shared → Prop), Inv X pins σ H s → (∀ b ∈ fp, FpOk X pins H b) → tn i s.heap → J.go i H →
    wpAny (model P w) X.A (pyNext (.ref it)) (fun r s1 => ∃ u, r = some u ∧
      wpAny (model P w) X.A (letOwnedTupleGo tg (.ref it) u) (fun _ s2 => ∃ x H', Inv X pins σ H' s2 ∧ RelV x u ∧ J.yld i H x H' ∧ tn (i + 1) s2.heap ∧ ∀ b ∈ fp, H' b = none) E s1) E s
  done : ∀ (X : Cx), X.prog = P → X.w = w → X.K = K → X.calm = true → ∀ (i : Nat) (pins : List (Addr × Obj)) (s : Shared) (σ : St) (H : Hp) (E : Value → Shared → Prop), Inv X pins σ H s → (∀ b ∈ fp, FpOk X pins H b) → tn i s.heap → J.stop i H →
    wpAny (model P w) X.A (pyNext (.ref it)) (fun r s1 => r = none ∧ Inv X pins σ H s1) E s
  self : ∀ (A : Around) (i : Nat) (s : Shared) (Q : Value → Shared → Prop) (E : Value → Shared → Prop), tn i s.heap → Q (.ref it) s → wpAny (model P w) A (pyIter (.ref it)) Q E s
abbrev TI := St → Hp → (It → Hp → Prop) → Prop
/-- an iterator has come -/
def PIE (X : Cx) (pins : List (Addr × Obj)) (σ : St) (tg : Expr) (R : It → Hp → Prop) (itv : Value) (s2 : Shared) : Prop :=
  ∃ (it : Addr) (fp : List Addr) (tn : Nat → Heap → Prop) (J : It) (H' : Hp), itv = .ref it ∧ Inv X pins σ H' s2 ∧ Turn X.prog X.w X.K tg J fp it tn ∧ tn 0 s2.heap ∧ (∀ b ∈ fp, FpOk X pins H' b) ∧ R J H'
def PI (X : Cx) (tg iter : Expr) (wi : TI) : Prop :=
  ∀ (pins : List (Addr × Obj)) (s : Shared) (σ : St) (H : Hp) (R : It → Hp → Prop), Inv X pins σ H s → wi σ H R →
    wpAny (model X.prog X.w) X.A (eval iter X.env) (fun v s1 => wpAny (model X.prog X.w) X.A (pyIter v) (PIE X pins σ tg R) X.xe s1) X.xe s

/-- the step ahead of the store is nothing for an iterator that keeps no tuple -/
theorem go_of {M : Model} {A : Around} {E : Value → Shared → Prop} {s : Shared} {tg : Expr} {it : Addr} {u : Value} {o : Obj} {n : String} {vs : Array Value} {Q : Unit → Shared → Prop} (ho : s.heap.get? it = some o) (hc : o.cls = .type n) (hd : o.data = .fields vs)
    (hn : ["enumerate", "zip", "dict_itemiterator", "dict_reverseitemiterator", "odict_iterator", "itertools.zip_longest", "itertools.pairwise"].contains n = false) (hQ : Q () s) : wpAny M A (letOwnedTupleGo tg (.ref it) u) Q E s := by
  unfold letOwnedTupleGo
  cases tg <;> first
    | exact wpAny_pure hQ
    | (cases u <;> first
        | exact wpAny_pure hQ
        | (refine wpAny_bind (wpAny_load ho ?_)
           rw [hc, hd]
           show wpAny M A (if (["enumerate", "zip", "dict_itemiterator", "dict_reverseitemiterator", "odict_iterator", "itertools.zip_longest", "itertools.pairwise"].contains n && vs[0]? == some (rawInt _)) = true then _ else _) Q E s
           rw [if_neg (by intro h; rw [hn, Bool.false_and] at h; cases h)]
           exact wpAny_pure hQ))

/-- the list at a, as it stands at each turn (a loop may append to it) -/
def Itl (K : PySem.W.Frag) (a : Addr) : It :=
  ⟨fun i H => ∃ xs x, SqL K H a xs ∧ xs[i]? = some x, fun i H x H' => H' = H ∧ ∀ xs, SqL K H a xs → xs[i]? = some x, fun i H => ∃ xs, SqL K H a xs ∧ xs.length ≤ i⟩
/-- lo, lo + 1, .. (n of them) -/
def Itr (lo : Int) (n : Nat) : It := ⟨fun i _ => i < n, fun i H x H' => H' = H ∧ x = .int (lo + i), fun i _ => n ≤ i⟩
theorem turn_list {P : Program} {w : World} {K : PySem.W.Frag} {tg : Expr} (a it : Addr) : Turn P w K tg (Itl K a) [it] it (fun i h => h.IsListIter it a i) where
  mem := by simp
  obj := fun i h st b hb => by
    have e : b = it := by simpa using hb
    subst e
    obtain ⟨o, e, c, d⟩ := st
    exact ⟨o, e, fun v z => by rw [d] at z; cases z⟩
  keep := fun i h h' st k => st.at fun o e => k it (by simp) o e
  item := by
    intro X hP hw hK hc i pins s σ H E I hf st hg
    subst hP hw hK
    obtain ⟨xs, x, hq, hx⟩ := hg
    obtain ⟨its, rv, p, hz⟩ := I.list hq
    obtain ⟨u, hu, ru⟩ := rv.get hx
    obtain ⟨f0, f1, f2, f3, f4, f5⟩ := hf it (by simp)
    refine wpAny_pyNext_list_item st p.isList (x := u) (by simpa using hu) fun h' st' sb => ?_
    have I1 : Inv X pins σ H { s with heap := h' } := I.turned (t' := s.toks) (fun b o hb e => (sb.2 b hb).trans e) f0 f1 f3 f4 f5
    obtain ⟨o, e, c, d⟩ := id st'
    exact ⟨u, rfl, go_of (s := { s with heap := h' }) e c d (by decide) ⟨x, H, I1, ru, ⟨rfl, fun ys hy => by rw [I.list_inj hy hq]; exact hx⟩, st', fun b hb => (hf b hb).1⟩⟩
  done := by
    intro X hP hw hK hc i pins s σ H E I hf st hg
    subst hP hw hK
    obtain ⟨xs, hq, hx⟩ := hg
    obtain ⟨its, rv, p, hz⟩ := I.list hq
    obtain ⟨f0, f1, f2, f3, f4, f5⟩ := hf it (by simp)
    have hl := rv.length
    exact wpAny_pyNext_list_end (I.ok.hd hc) st p.isList (by simp; omega) fun h' eb => ⟨rfl, I.turned (t' := s.toks) (fun b o hb e => eb b o hb e) f0 f1 f3 f4 f5⟩
  self := fun _ _ _ _ _ st h => wpAny_pyIter_listiter st h
theorem turn_range {P : Program} {w : World} {K : PySem.W.Frag} {tg : Expr} (it : Addr) (lo : Int) (n : Nat) : Turn P w K tg (Itr lo n) [it] it (fun i h => IsRangeIter h it (lo + (i : Nat) * 1) ((n : Int) - (i : Nat)) 1) where
  mem := by simp
  obj := fun i h st b hb => by
    have e : b = it := by simpa using hb
    subst e
    exact ⟨_, st, fun v z => by
      have z' : Data.fields _ = Data.cell v := z
      cases z'⟩
  keep := fun i h h' st k => k it (by simp) _ st
  item := by
    intro X hP hw hK hc i pins s σ H E I hf st hg
    subst hP hw hK
    obtain ⟨f0, f1, f2, f3, f4, f5⟩ := hf it (by simp)
    have W := Walks.range (prog := X.prog) (w := X.w) (I.ok.hd hc) it lo 1 n
    refine W.item i s _ _ hg st fun v h' tk hv st' kk => ?_
    obtain ⟨t, rfl⟩ := hv
    have I1 : Inv X pins σ H { s with heap := h', toks := tk } := I.turned (fun b o hb e => kk b o (by simpa using hb) e) f0 f1 f3 f4 f5
    refine ⟨_, rfl, go_of (s := { s with heap := h', toks := tk }) (n := "range_iterator") st' rfl rfl (by decide) ⟨.int (lo + i), H, I1, ⟨t, ?_⟩, ⟨rfl, rfl⟩, st', fun b hb => (hf b hb).1⟩⟩
    rw [Int.mul_one]
  done := by
    intro X hP hw hK hc i pins s σ H E I hf st hg
    subst hP hw hK
    obtain ⟨f0, f1, f2, f3, f4, f5⟩ := hf it (by simp)
    exact wpAny_pyNext_range_end (I.ok.hd hc) st (by have : n ≤ i := hg; omega) fun h' eb => ⟨rfl, I.turned (t' := s.toks) (fun b o hb e => eb b o hb e) f0 f1 f3 f4 f5⟩
  self := fun _ _ _ _ _ st h => wpAny_pyIter_rangeiter st h
end L2

namespace L2
open PySem PySem.Spec PyProof.Rows
section
variable {X : Cx} {tg : Expr}
def iList (K : PySem.W.Frag) (tl : TE) : TI := fun σ H R => tl σ H fun x H1 => ∃ a, x = .ref a ∧ (∃ xs, SqL K H1 a xs) ∧ R (Itl K a) H1
theorem pi_list {l : Expr} {tl : TE} (hl : PE X l tl) : PI X tg l (iList X.K tl) := by
  intro pins s σ H R I h
  refine thn (hl pins s σ H _ I h) fun v s1 ⟨x, H1, I1, r1, q1⟩ => ?_
  obtain ⟨a, e, ⟨xs, hq⟩, q⟩ := q1
  subst e
  cases r1
  obtain ⟨its, rv, p, hz⟩ := I1.list hq
  refine wpAny_pyIter_list p.isList ?_
  refine ⟨s1.heap.objs.size, [s1.heap.objs.size], _, _, H1, rfl, I1.kept (t' := s1.toks) fun b o e => Heap.get?_push_of_some _ e, turn_list a _, ⟨_, Heap.get?_push_size _ rfl, rfl, rfl⟩, fun b hb => ?_, q⟩
  have e : b = s1.heap.objs.size := by simpa using hb
  subst e
  exact I1.fpOk (Nat.le_refl _) (I1.hok.fresh (Nat.le_refl _))
/-- a range object just made, walked -/
theorem range_it {pins : List (Addr × Obj)} {σ : St} {H : Hp} {s : Shared} {R : It → Hp → Prop} {E : Value → Shared → Prop} {lo hi : Int} {t u v : Tok} {tk : Nat} (I : Inv X pins σ H s) (h1 : -(2 ^ 62) ≤ lo) (h2 : lo < 2 ^ 62) (h3 : -(2 ^ 62) ≤ hi) (h4 : hi < 2 ^ 62)
    (q : R (Itr lo (hi - lo).toNat) H) : wpAny (model X.prog X.w) X.A (pyIter (.ref s.heap.objs.size)) (PIE X pins σ tg R) E { s with heap := s.heap.push { cls := .type "range", data := .fields #[.int lo t, .int hi u, .int 1 v] }, toks := tk } := by
  refine wpAny_pyIter_range (IsRange.new ..) (small_one h1 h2 h3 h4) ?_
  have I1 : Inv X pins σ H { s with heap := s.heap.push { cls := .type "range", data := .fields #[.int lo t, .int hi u, .int 1 v] }, toks := tk } := I.kept fun b o e => Heap.get?_push_of_some _ e
  refine ⟨(s.heap.push { cls := .type "range", data := .fields #[.int lo t, .int hi u, .int 1 v] }).objs.size, [(s.heap.push { cls := .type "range", data := .fields #[.int lo t, .int hi u, .int 1 v] }).objs.size], _, _, H, rfl,
    I1.kept (t' := tk) fun b o e => Heap.get?_push_of_some _ e, turn_range _ lo (hi - lo).toNat, ?_, fun b hb => ?_, q⟩
  · have e1 : lo + ((0 : Nat) : Int) * 1 = lo := by simp
    have e2 : (((hi - lo).toNat : Nat) : Int) - ((0 : Nat) : Int) = Builtin.Range.rangeSize lo hi 1 := by rw [rangeSize_one]; split <;> omega
    show IsRangeIter _ _ (lo + ((0 : Nat) : Int) * 1) ((((hi - lo).toNat : Nat) : Int) - ((0 : Nat) : Int)) 1
    rw [e1, e2]
    exact Heap.get?_push_size _ rfl
  · have e : b = (s.heap.push { cls := .type "range", data := .fields #[.int lo t, .int hi u, .int 1 v] }).objs.size := by simpa using hb
    subst e
    exact I1.fpOk (Nat.le_refl _) (I1.hok.fresh (Nat.le_refl _))
def iRng1 (ta : TA) : TI := fun σ H R => ta σ H fun vs H1 => ∃ j : Int, vs = [.int j] ∧ -(2 ^ 62) ≤ j ∧ j < 2 ^ 62 ∧ R (Itr 0 j.toNat) H1
theorem pi_range1 {a : Expr} {ta : TA} {p pos : Pos} (hg : Gl X "range") (hm : X.mg "range" = none) (ha : PA X [a] ta) (hs : starEach [a] X.env = [(false, eval a X.env)] := by rfl) : PI X tg (.Call (.Name "range" p) [a] [] pos) (iRng1 ta) := by
  intro pins s σ H R I h
  refine Call_ (ld_blt I hg hm boot_range (PyProof.Rows.callWith_type1 (thn (ha pos pins s σ H _ I h) fun us s1 ⟨vs, H1, I1, r1, q1⟩ => ?_) hs rfl))
  obtain ⟨j, e, q1, q2, q⟩ := q1
  subst e
  cases r1 with
  | cons r rr =>
    cases rr
    obtain ⟨t, rfl⟩ := r
    exact call_range_1 (range_it I1 (by omega) (by omega) q1 q2 (by simpa using q))
/-- the records at fp as they stand -/
def pinsAt (fp : List Addr) (h : Heap) : List (Addr × Obj) := fp.filterMap fun b => (h.get? b).map fun o => (b, o)
theorem mem_pinsAt {fp : List Addr} {h : Heap} {b : Addr} {o : Obj} (hb : b ∈ fp) (e : h.get? b = some o) : (b, o) ∈ pinsAt fp h := List.mem_filterMap.mpr ⟨b, hb, by rw [e]; rfl⟩
theorem of_pinsAt {fp : List Addr} {h : Heap} {p : Addr × Obj} (hp : p ∈ pinsAt fp h) : p.1 ∈ fp ∧ h.get? p.1 = some p.2 := by
  obtain ⟨b, hb, e⟩ := List.mem_filterMap.mp hp
  cases q : h.get? b with
  | none => rw [q] at e; cases e
  | some o =>
    rw [q] at e
    have e' : (b, o) = p := Option.some.inj e
    subst e'
    exact ⟨hb, q⟩
theorem Inv.pinned {pins : List (Addr × Obj)} {σ : St} {H : Hp} {s : Shared} {fp : List Addr} (I : Inv X pins σ H s) (hf : ∀ b ∈ fp, FpOk X pins H b) (ho : ∀ b ∈ fp, ∃ o, s.heap.get? b = some o ∧ ∀ v, o.data ≠ .cell v) : Inv X (pins ++ pinsAt fp s.heap) σ H s :=
  I.pins_of fun p hp => (List.mem_append.mp hp).elim (fun z => I.pin p (List.mem_append_right _ z)) fun z => by
    obtain ⟨hb, e⟩ := of_pinsAt z
    obtain ⟨f0, f1, f2, _⟩ := hf p.1 hb
    obtain ⟨o, e', d⟩ := ho p.1 hb
    rw [e] at e'; cases e'
    exact ⟨e, f0, f1, f2, d⟩
theorem Inv.unpinned {pins pl : List (Addr × Obj)} {σ : St} {H : Hp} {s : Shared} (I : Inv X (pins ++ pl) σ H s) : Inv X pins σ H s := I.pins_of fun p hp => I.pin p (List.mem_append_right _ (List.mem_append_left _ hp))
end

/-- over a list that the body leaves as it is -/
theorem for_list {K : PySem.W.Frag} {a : Addr} {xs : List V} {g : TG} {tb : TS} {D : Ends} {σ : St} {H : Hp} (Pv : Nat → St → Hp → Prop) (h0 : Pv 0 σ H) (hl : ∀ i σ H, i ≤ xs.length → Pv i σ H → SqL K H a xs)
    (hs : ∀ i x σ H, xs[i]? = some x → Pv i σ H → g x σ H fun σ2 H2 => tb { D with nx := Pv (i + 1), ct := Pv (i + 1), bk := D.nx } σ2 H2) (hd : ∀ σ H, Pv xs.length σ H → D.nx σ H) :
    ∃ W : Nat → Nat → St → Hp → Prop, (∃ m, W 0 m σ H) ∧ ∀ i m σ H, W i m σ H →
      ((Itl K a).stop i H ∧ D.nx σ H) ∨ ((Itl K a).go i H ∧ ∃ N : St → Hp → Prop, (∀ σ' H', N σ' H' → ∃ m', m' < m ∧ W (i + 1) m' σ' H') ∧ ∀ x H', (Itl K a).yld i H x H' → g x σ H' fun σ2 H2 => tb { D with nx := N, ct := N, bk := D.nx } σ2 H2) := by
  refine ⟨fun i m σ H => m = xs.length - i ∧ i ≤ xs.length ∧ Pv i σ H, ⟨xs.length, by simp, Nat.zero_le _, h0⟩, ?_⟩
  rintro i m σ H ⟨rfl, hi, p⟩
  have q := hl i σ H hi p
  by_cases hlt : i < xs.length
  · refine .inr ⟨⟨xs, xs[i], q, by simp [hlt]⟩, Pv (i + 1), fun σ' H' p' => ⟨xs.length - (i + 1), by omega, rfl, hlt, p'⟩, fun x H' y => ?_⟩
    obtain ⟨e, y⟩ := y
    subst e
    exact hs i x σ _ (y xs q) p
  · have e : i = xs.length := by omega
    subst e
    exact .inl ⟨⟨xs, q, Nat.le_refl _⟩, hd σ H p⟩
theorem for_range {lo : Int} {n : Nat} {g : TG} {tb : TS} {D : Ends} {σ : St} {H : Hp} (Pv : Nat → St → Hp → Prop) (h0 : Pv 0 σ H)
    (hs : ∀ i σ H, i < n → Pv i σ H → g (.int (lo + i)) σ H fun σ2 H2 => tb { D with nx := Pv (i + 1), ct := Pv (i + 1), bk := D.nx } σ2 H2) (hd : ∀ σ H, Pv n σ H → D.nx σ H) :
    ∃ W : Nat → Nat → St → Hp → Prop, (∃ m, W 0 m σ H) ∧ ∀ i m σ H, W i m σ H →
      ((Itr lo n).stop i H ∧ D.nx σ H) ∨ ((Itr lo n).go i H ∧ ∃ N : St → Hp → Prop, (∀ σ' H', N σ' H' → ∃ m', m' < m ∧ W (i + 1) m' σ' H') ∧ ∀ x H', (Itr lo n).yld i H x H' → g x σ H' fun σ2 H2 => tb { D with nx := N, ct := N, bk := D.nx } σ2 H2) := by
  refine ⟨fun i m σ H => m = n - i ∧ i ≤ n ∧ Pv i σ H, ⟨n, by simp, Nat.zero_le _, h0⟩, ?_⟩
  rintro i m σ H ⟨rfl, hi, p⟩
  by_cases hlt : i < n
  · refine .inr ⟨hlt, Pv (i + 1), fun σ' H' p' => ⟨n - (i + 1), by omega, rfl, hlt, p'⟩, fun x H' y => ?_⟩
    obtain ⟨e, y⟩ := y
    subst e y
    exact hs i σ _ hlt p
  · have e : i = n := by omega
    subst e
    exact .inl ⟨Nat.le_refl _, hd σ H p⟩
end L2

namespace L2
open PySem PySem.Spec PyProof.Rows

abbrev R2 := V → V → Hp → VK → Prop
/-- a two-place operation on values: f is binaryOp op, inplaceOp op or compareOp op -/
def OpR (X : Cx) (f : Value → Value → Sem Value) (r : R2) : Prop :=
  ∀ (pins : List (Addr × Obj)) (s : Shared) (σ : St) (H : Hp) (x y : V) (v u : Value) (Q : VK), Inv X pins σ H s → RelV x v → RelV y u → r x y H Q →
    wpAny (model X.prog X.w) X.A (f v u) (EP X pins σ Q) X.xe s
/-- a one-place operation -/
def UnR (X : Cx) (f : Value → Sem Value) (r : V → Hp → VK → Prop) : Prop :=
  ∀ (pins : List (Addr × Obj)) (s : Shared) (σ : St) (H : Hp) (x : V) (v : Value) (Q : VK), Inv X pins σ H s → RelV x v → r x H Q →
    wpAny (model X.prog X.w) X.A (f v) (EP X pins σ Q) X.xe s
/-- a call of a value that is known (a builtin, a type) with values -/
def CallR (X : Cx) (f : Value) (r : List V → Hp → VK → Prop) : Prop :=
  ∀ (pins : List (Addr × Obj)) (s : Shared) (σ : St) (H : Hp) (xs : List V) (us : List Value) (Q : VK), Inv X pins σ H s → Vals xs us → r xs H Q →
    wpAny (model X.prog X.w) X.A (call f us) (EP X pins σ Q) X.xe s
def tOp (r : R2) (ta tb : TE) : TE := fun σ H Q => ta σ H fun x H1 => tb σ H1 fun y H2 => r x y H2 Q
def tUn (r : V → Hp → VK → Prop) (ta : TE) : TE := fun σ H Q => ta σ H fun x H1 => r x H1 Q
/-- ints in, under C, and a value out -/
def rI (C : Int → Int → Prop) (g : Int → Int → V) : R2 := fun x y H Q => ∃ i j, x = .int i ∧ y = .int j ∧ C i j ∧ Q (g i j) H
def rI0 (g : Int → Int → V) : R2 := fun x y H Q => ∃ i j, x = .int i ∧ y = .int j ∧ Q (g i j) H
def rU (g : Int → V) : V → Hp → VK → Prop := fun x H Q => ∃ i, x = .int i ∧ Q (g i) H

section
variable {X : Cx} {a b c : Expr} {ta tb tc : TE} {pos : Pos}

theorem binT (ha : PE X a ta) (hb : PE X b tb) {pins : List (Addr × Obj)} {s : Shared} {σ : St} {H : Hp} {R : V → V → Hp → Prop} (I : Inv X pins σ H s)
    (h : ta σ H fun x H1 => tb σ H1 fun y H2 => R x y H2) {Q : Value → Shared → Prop} {f : Value → Value → Sem Value}
    (hf : ∀ v u s2 x y H2, Inv X pins σ H2 s2 → RelV x v → RelV y u → R x y H2 → wpAny (model X.prog X.w) X.A (f v u) Q X.xe s2) :
    wpAny (model X.prog X.w) X.A (eval a X.env) (fun v s₁ => wpAny (model X.prog X.w) X.A (eval b X.env) (fun u s₂ => wpAny (model X.prog X.w) X.A (f v u) Q X.xe s₂) X.xe s₁) X.xe s := by
  refine thn (ha pins s σ H _ I h) fun v s1 ⟨x, H1, I1, r1, q1⟩ => ?_
  refine thn (hb pins s1 σ H1 _ I1 q1) fun u s2 ⟨y, H2, I2, r2, q2⟩ => ?_
  exact hf v u s2 x y H2 I2 r1 r2 q2

theorem pe_op {op : Operator} {r : R2} (ho : OpR X (binaryOp op) r) (ha : PE X a ta) (hb : PE X b tb) : PE X (.BinOp a op b pos) (tOp r ta tb) := by
  intro pins s σ H Q I h
  exact wpAny_BinOp (binT ha hb I h fun v u s2 x y H2 I2 rx ry q => ho pins s2 σ H2 x y v u Q I2 rx ry q)
theorem pe_un {op : UnaryOp} {r : V → Hp → VK → Prop} (ho : UnR X (unaryOp op) r) (ha : PE X a ta) : PE X (.UnaryOp op a pos) (tUn r ta) := by
  intro pins s σ H Q I h
  exact UnaryOp_ (thn (ha pins s σ H _ I h) fun v s1 ⟨x, H1, I1, r1, q1⟩ => ho pins s1 σ H1 x v Q I1 r1 q1)
theorem opI {f : Value → Value → Sem Value} {C : Int → Int → Prop} {g : Int → Int → Int}
    (rule : ∀ (i j : Int) (t u : Tok) (s : Shared) (Q : Value → Shared → Prop) (E : Value → Shared → Prop), C i j → Q (.int (g i j) s.toks) { s with toks := s.toks + 1 } → wpAny (model X.prog X.w) X.A (f (.int i t) (.int j u)) Q E s) :
    OpR X f (rI C fun i j => .int (g i j)) := by
  intro pins s σ H x y v u Q I rx ry h
  obtain ⟨i, j, rfl, rfl, hc, q⟩ := h
  obtain ⟨t, rfl⟩ := rx
  obtain ⟨t', rfl⟩ := ry
  exact rule i j t t' s _ _ hc ⟨.int (g i j), H, I.tok _, ⟨_, rfl⟩, q⟩
theorem opI0 {f : Value → Value → Sem Value} {g : Int → Int → Int}
    (rule : ∀ (i j : Int) (t u : Tok) (s : Shared) (Q : Value → Shared → Prop) (E : Value → Shared → Prop), Q (.int (g i j) s.toks) { s with toks := s.toks + 1 } → wpAny (model X.prog X.w) X.A (f (.int i t) (.int j u)) Q E s) :
    OpR X f (rI0 fun i j => .int (g i j)) := by
  intro pins s σ H x y v u Q I rx ry h
  obtain ⟨i, j, rfl, rfl, q⟩ := h
  obtain ⟨t, rfl⟩ := rx
  obtain ⟨t', rfl⟩ := ry
  exact rule i j t t' s _ _ ⟨.int (g i j), H, I.tok _, ⟨_, rfl⟩, q⟩
theorem opB0 {f : Value → Value → Sem Value} {g : Int → Int → Bool}
    (rule : ∀ (i j : Int) (t u : Tok) (s : Shared) (Q : Value → Shared → Prop) (E : Value → Shared → Prop), Q (.bool (g i j)) s → wpAny (model X.prog X.w) X.A (f (.int i t) (.int j u)) Q E s) :
    OpR X f (rI0 fun i j => .bl (g i j)) := by
  intro pins s σ H x y v u Q I rx ry h
  obtain ⟨i, j, rfl, rfl, q⟩ := h
  obtain ⟨t, rfl⟩ := rx
  obtain ⟨t', rfl⟩ := ry
  exact rule i j t t' s _ _ ⟨.bl (g i j), H, I, rfl, q⟩

def CPow (i j : Int) : Prop := 0 ≤ j ∧ j ≤ 1000000 ∧ i.natAbs < 2 ^ 64
theorem two_pow_nn (k : Nat) : (0 : Int) ≤ 2 ^ k := by
  rw [two_pow_cast]
  exact Int.natCast_nonneg _

theorem op_add : OpR X (binaryOp .Add) (rI0 fun i j => .int (i + j)) := opI0 fun _ _ _ _ _ _ _ q => add_int q
theorem op_sub : OpR X (binaryOp .Sub) (rI0 fun i j => .int (i - j)) := opI0 fun _ _ _ _ _ _ _ q => sub_int q
/-- % by a positive divisor of any size -/
theorem op_mod : OpR X (binaryOp .Mod) (rI (fun _ j => 0 < j) fun i j => .int (i % j)) := opI fun i j _ _ _ _ _ hc q => by
  have h1 : (0 : Int) < j := hc
  exact mod_int' (by omega) (by rw [Int.fmod_eq_emod_of_nonneg i (by omega)]; exact q)
theorem op_shl : OpR X (binaryOp .LShift) (rI CPow fun i j => .int (i * 2 ^ j.toNat)) := opI fun _ _ _ _ _ _ _ hc q => lshift_int_small hc.1 hc.2.1 hc.2.2 q
theorem op_shr : OpR X (binaryOp .RShift) (rI (fun _ j => 0 ≤ j) fun i j => .int (i / 2 ^ j.toNat)) := opI fun i j _ _ _ _ _ hc q =>
  rshift_int hc (by rw [Int.fdiv_eq_ediv_of_nonneg i (two_pow_nn _)]; exact q)
theorem op_and : OpR X (binaryOp .BitAnd) (rI0 fun i j => .int (Builtin.bitAnd i j)) := opI0 fun _ _ _ _ _ _ _ q => and_int q
theorem op_or : OpR X (binaryOp .BitOr) (rI0 fun i j => .int (Builtin.bitOr i j)) := opI0 fun _ _ _ _ _ _ _ q => or_int q
theorem unI {f : Value → Sem Value} {g : Int → Int}
    (rule : ∀ (i : Int) (t : Tok) (s : Shared) (Q : Value → Shared → Prop) (E : Value → Shared → Prop), Q (.int (g i) s.toks) { s with toks := s.toks + 1 } → wpAny (model X.prog X.w) X.A (f (.int i t)) Q E s) :
    UnR X f (rU fun i => .int (g i)) := by
  intro pins s σ H x v Q I rx h
  obtain ⟨i, rfl, q⟩ := h
  obtain ⟨t, rfl⟩ := rx
  exact rule i t s _ _ ⟨.int (g i), H, I.tok _, ⟨_, rfl⟩, q⟩
theorem un_neg : UnR X (unaryOp .USub) (rU fun i => .int (-i)) := unI fun _ _ _ _ _ q => neg_int q
end

/-- the scalars that == tells apart as data does -/
def scal : V → V → Bool
  | .non, .non => true | .non, .int _ => true | .int _, .non => true | .non, .bl _ => true | .bl _, .non => true | .non, .str _ => true | .str _, .non => true
  | .int _, .int _ => true | .bl _, .bl _ => true | .str _, .str _ => true | .byt _, .byt _ => true
  | .int _, .str _ => true | .str _, .int _ => true | .bl _, .str _ => true | .str _, .bl _ => true
  | _, _ => false
def rEq : R2 := fun x y H Q => scal x y = true ∧ Q (.bl (decide (x = y))) H
def rNe : R2 := fun x y H Q => scal x y = true ∧ Q (.bl (!decide (x = y))) H

theorem dec_int {i j : Int} : decide (V.int i = V.int j) = (i == j) := by
  rw [Bool.eq_iff_iff]
  simp
theorem dec_bl {i j : Bool} : decide (V.bl i = V.bl j) = (i == j) := by
  rw [Bool.eq_iff_iff]
  simp
theorem dec_str {i j : Str} : decide (V.str i = V.str j) = (i == j) := by
  rw [Bool.eq_iff_iff]
  simp
theorem dec_byt {i j : Array UInt8} : decide (V.byt i = V.byt j) = (i.toList == j.toList) := by
  rw [Bool.eq_iff_iff]
  cases i
  cases j
  simp

section
variable {X : Cx} {a b c : Expr} {ta tb tc : TE} {pos : Pos}
theorem fin_bl {pins : List (Addr × Obj)} {σ : St} {H : Hp} {s : Shared} {Q : VK} {k k' : Bool} (I : Inv X pins σ H s) (q : Q (.bl k) H) (e : k = k') : EP X pins σ Q (.bool k') s := by
  subst e
  exact ⟨.bl k, H, I, rfl, q⟩
theorem op_eq : OpR X (compareOp .Eq) rEq := by
  intro pins s σ H x y v u Q I rx ry h
  obtain ⟨hs, q⟩ := h
  cases x with
  | non =>
    cases rx
    cases y with
    | non => cases ry; exact PySem.EqNone.eq_none_none (fin_bl I q (by simp))
    | bl j => cases ry; exact PySem.EqNone.eq_none_bool (fin_bl I q (by simp))
    | int j => obtain ⟨t', rfl⟩ := ry; exact PySem.EqNone.eq_none_int (fin_bl I q (by simp))
    | str j => obtain ⟨t', rfl⟩ := ry; exact PySem.EqNone.eq_none_str (fin_bl I q (by simp))
    | _ => exact absurd (show false = true from hs) Bool.false_ne_true
  | bl i =>
    cases rx
    cases y with
    | non => cases ry; exact PySem.EqNone.eq_bool_none (fin_bl I q (by simp))
    | bl j => cases ry; exact eq_bool (fin_bl I q dec_bl)
    | str j => obtain ⟨t', rfl⟩ := ry; exact PySem.EqMixed.eq_bool_str (fin_bl I q (by simp))
    | _ => exact absurd (show false = true from hs) Bool.false_ne_true
  | int i =>
    obtain ⟨t, rfl⟩ := rx
    cases y with
    | non => cases ry; exact PySem.EqNone.eq_int_none (fin_bl I q (by simp))
    | int j => obtain ⟨t', rfl⟩ := ry; exact eq_int (fin_bl I q dec_int)
    | str j => obtain ⟨t', rfl⟩ := ry; exact PySem.EqMixed.eq_int_str (fin_bl I q (by simp))
    | _ => exact absurd (show false = true from hs) Bool.false_ne_true
  | str i =>
    obtain ⟨t, rfl⟩ := rx
    cases y with
    | non => cases ry; exact PySem.EqNone.eq_str_none (fin_bl I q (by simp))
    | bl j => cases ry; exact PySem.EqMixed.eq_str_bool (fin_bl I q (by simp))
    | int j => obtain ⟨t', rfl⟩ := ry; exact PySem.EqMixed.eq_str_int (fin_bl I q (by simp))
    | str j => obtain ⟨t', rfl⟩ := ry; exact eq_str (fin_bl I q dec_str)
    | _ => exact absurd (show false = true from hs) Bool.false_ne_true
  | byt i =>
    obtain ⟨t, rfl⟩ := rx
    cases y with
    | byt j => obtain ⟨t', rfl⟩ := ry; exact PySem.W.eq_bytes (fin_bl I q dec_byt)
    | _ => exact absurd (show false = true from hs) Bool.false_ne_true
  | _ => cases y <;> exact absurd (show false = true from hs) Bool.false_ne_true
theorem op_ne : OpR X (compareOp .NotEq) rNe := by
  intro pins s σ H x y v u Q I rx ry h
  obtain ⟨hs, q⟩ := h
  cases x with
  | non =>
    cases rx
    cases y with
    | non => cases ry; exact PySem.EqNone.ne_none_none (fin_bl I q (by simp))
    | bl j => cases ry; exact PySem.EqNone.ne_none_bool (fin_bl I q (by simp))
    | int j => obtain ⟨t', rfl⟩ := ry; exact PySem.EqNone.ne_none_int (fin_bl I q (by simp))
    | str j => obtain ⟨t', rfl⟩ := ry; exact PySem.EqNone.ne_none_str (fin_bl I q (by simp))
    | _ => exact absurd (show false = true from hs) Bool.false_ne_true
  | bl i =>
    cases rx
    cases y with
    | non => cases ry; exact PySem.EqNone.ne_bool_none (fin_bl I q (by simp))
    | bl j => cases ry; exact ne_bool (fin_bl I q (congrArg not dec_bl))
    | str j => obtain ⟨t', rfl⟩ := ry; exact PySem.EqMixed.ne_bool_str (fin_bl I q (by simp))
    | _ => exact absurd (show false = true from hs) Bool.false_ne_true
  | int i =>
    obtain ⟨t, rfl⟩ := rx
    cases y with
    | non => cases ry; exact PySem.EqNone.ne_int_none (fin_bl I q (by simp))
    | int j => obtain ⟨t', rfl⟩ := ry; exact ne_int (fin_bl I q (congrArg not dec_int))
    | str j => obtain ⟨t', rfl⟩ := ry; exact PySem.EqMixed.ne_int_str (fin_bl I q (by simp))
    | _ => exact absurd (show false = true from hs) Bool.false_ne_true
  | str i =>
    obtain ⟨t, rfl⟩ := rx
    cases y with
    | non => cases ry; exact PySem.EqNone.ne_str_none (fin_bl I q (by simp))
    | bl j => cases ry; exact PySem.EqMixed.ne_str_bool (fin_bl I q (by simp))
    | int j => obtain ⟨t', rfl⟩ := ry; exact PySem.EqMixed.ne_str_int (fin_bl I q (by simp))
    | str j => obtain ⟨t', rfl⟩ := ry; exact ne_str (fin_bl I q (congrArg not dec_str))
    | _ => exact absurd (show false = true from hs) Bool.false_ne_true
  | byt i =>
    obtain ⟨t, rfl⟩ := rx
    cases y with
    | byt j => obtain ⟨t', rfl⟩ := ry; exact PySem.W.ne_bytes (fin_bl I q (congrArg not dec_byt))
    | _ => exact absurd (show false = true from hs) Bool.false_ne_true
  | _ => cases y <;> exact absurd (show false = true from hs) Bool.false_ne_true

theorem op_lt : OpR X (compareOp .Lt) (rI0 fun i j => .bl (decide (i < j))) := opB0 fun _ _ _ _ _ _ _ q => lt_int q
theorem op_le : OpR X (compareOp .LtE) (rI0 fun i j => .bl (decide (i ≤ j))) := opB0 fun _ _ _ _ _ _ _ q => le_int q
theorem op_gt : OpR X (compareOp .Gt) (rI0 fun i j => .bl (decide (j < i))) := opB0 fun _ _ _ _ _ _ _ q => gt_int q
theorem op_ge : OpR X (compareOp .GtE) (rI0 fun i j => .bl (decide (j ≤ i))) := opB0 fun _ _ _ _ _ _ _ q => ge_int q
theorem nomark (b : Expr) {op : CmpOp} (h : op ≠ .In := by decide) (h2 : op ≠ .NotIn := by decide) : behindInMarks op b = false := by
  have e1 : (op == CmpOp.In) = false := by cases op <;> first | rfl | exact absurd rfl h
  have e2 : (op == CmpOp.NotIn) = false := by cases op <;> first | rfl | exact absurd rfl h2
  cases b <;> simp [behindInMarks, e1, e2]
/-- a comparison as a value; hm: nomark b, or (for in, not in) by with_unfolding_all rfl -/
theorem pe_cmpR {op : CmpOp} {r : R2} (ho : OpR X (compareOp op) r) (ha : PE X a ta) (hb : PE X b tb) (hm : behindInMarks op b = false) : PE X (.Compare a [op] [b] pos) (tOp r ta tb) := by
  intro pins s σ H Q I h
  exact wpAny_Compare1 (binT ha hb I h fun v u s2 x y H2 I2 rx ry q => ho pins s2 σ H2 x y v u Q I2 rx ry q) hm
/-- a reading of a value as a test -/
def tTest (t : TE) : TT := fun σ H Q => t σ H fun x H' => ∃ k, x = .bl k ∧ Q k H'
theorem pt_cmpR {op : CmpOp} {r : R2} (ho : OpR X (compareOp op) r) (ha : PE X a ta) (hb : PE X b tb) (hm : behindInMarks op b = false) : PT X (.Compare a [op] [b] pos) (tTest (tOp r ta tb)) := by
  intro pins s σ H Q I h
  refine wpAny_isTrue_Compare1 (thn (ha pins s σ H _ I h) fun v s1 ⟨x, H1, I1, r1, q1⟩ => thn (hb pins s1 σ H1 _ I1 q1) fun u s2 ⟨y, H2, I2, r2, q2⟩ =>
    thn (ho pins s2 σ H2 x y v u _ I2 r1 r2 q2) fun c s3 ⟨z, H3, I3, r3, k, e, q3⟩ => ?_) hm
  subst e
  cases r3
  exact wpAny_truthy_bool ⟨H3, I3, q3⟩
theorem line63 : (sizeLine : Nat) < 2 ^ 63 := by rw [sizeLine_eq]; decide
theorem vals1 {x : V} {us : List Value} (r : Vals [x] us) : ∃ u, us = [u] ∧ RelV x u := by
  cases r with
  | cons r1 r2 => cases r2; exact ⟨_, rfl, r1⟩
end
end L2

namespace L2
open PySem PySem.Spec PyProof.Rows

structure ObjM (h : Heap) (x dx C : Addr) (mA : Str → Option Value) : Prop where
  obj : h.get? x = some (PySem.W.instObj C dx)
  ns : h.Ns1 dx mA
  ne : dx ≠ x

theorem lookIn_ns {h : Heap} {dx : Addr} {mA : Str → Option Value} (n : h.Ns1 dx mA) : ∃ od, h.get? dx = some od ∧ ∀ name, PySem.W.lookIn name od = some (mA name) := by
  obtain ⟨o, es, ep, ho, hd, hk, _, hm⟩ := n
  refine ⟨o, ho, fun name => ?_⟩
  have e := hm name
  unfold nsFind findBy at e
  rw [← Array.find?_toList] at e
  unfold PySem.W.lookIn
  rw [hd]
  dsimp only
  split
  · rename_i y q
    rw [q] at e
    exact congrArg some e
  · rename_i q
    rw [q] at e
    have a : es.toList.any (·.refKey) = false := by
      rw [List.any_eq_false]
      intro y hy
      obtain ⟨z, t, hkey⟩ := hk y (Array.mem_toList_iff.mp hy)
      simp [DictEntry.refKey, hkey]
    have a' : ¬ es.toList.any (·.refKey) = true := by rw [a]; exact Bool.false_ne_true
    rw [if_neg a']
    exact congrArg some e

theorem ObjM.look {h : Heap} {x dx C : Addr} {mA : Str → Option Value} (I : ObjM h x dx C mA) : ∃ od, PySem.W.InstAt h x (PySem.W.instObj C dx) C (some od) ∧ ∀ name, PySem.W.lookIn name od = some (mA name) :=
  let ⟨od, ho, hl⟩ := lookIn_ns I.ns
  ⟨od, ⟨I.obj, rfl, rfl, ho⟩, hl⟩

section
variable {prog : Program} {w : World} {A : Around} {E : Value → Shared → Prop} {s : Shared} {K : PySem.W.Frag} {x dx C f : Addr} {mA : Str → Option Value} {name : Str} {v : Value}

theorem get_map {expr : Bool} {Q : Value → Shared → Prop} (X : K.In s.heap) (I : ObjM s.heap x dx C mA) (hg : PySem.W.plainGet K C name = true) (hh : PySem.W.hasDictIn K C = true)
    (ha : PySem.W.findIn K (.ref C) name = some none) (hv : mA name = some v) (hv' : PySem.W.handedIn v = true) (h : Q v { s with toks := s.toks + 1 }) :
    wpAny (model prog w) A (getAttr (.ref x) name expr) Q E s := by
  obtain ⟨od, J, hl⟩ := I.look
  exact PySem.W.get_value X J (PySem.W.plainGet_of hg).1 (PySem.W.findObj_own hh ha rfl (by rw [hl, hv])) hv' h

theorem get_meth {pl : Sem Bool} {Q : Value × List Value → Shared → Prop} (X : K.In s.heap) (I : ObjM s.heap x dx C mA) (hg : PySem.W.plainGet K C name = true)
    (hf : PySem.W.findIn K (.ref C) name = some (some (.ref f))) (ht : PySem.W.isFn K (.ref f) = true) (hv : mA name = none) (h : Q (.ref f, [.ref x]) s) :
    wpAny (model prog w) A (getMethod (.ref x) name pl) Q E s := by
  obtain ⟨od, J, hl⟩ := I.look
  exact PySem.W.method_fn X J (PySem.W.plainGet_of hg).1 (PySem.W.plainGet_of hg).2 hf (beq_iff_eq.mp ht) (by show (PySem.W.lookIn name od).map (·.isSome) = some false; rw [hl, hv]; rfl) h

theorem set_map {ns : List Str} {Q : Unit → Shared → Prop} (X : K.In s.heap) (I : ObjM s.heap x dx C mA)
    (hs : PySem.W.findIn K (.ref C) "__setattr__" = some (some (.builtin "object.__setattr__"))) (hp : PySem.W.plainOver K C = true) (ht : PySem.W.takerIn K C name = some none) (hh : PySem.W.hasDictIn K C = true)
    (hw : PySem.Within mA ns) (hsz : ns.length ≤ sizeLine)
    (h : ∀ h', ObjM h' x dx C (fun y => if y = name then some v else mA y) → Heap.SameBut dx s.heap h' → Q () { s with heap := h', toks := s.toks + 2 }) :
    wpAny (model prog w) A (setAttr (.ref x) name v) Q E s := by
  obtain ⟨od, J, hl⟩ := I.look
  refine PySem.W.set_plain X J hs (PySem.W.osa_open (s := { s with toks := s.toks + 1 }) (r := none) X J hp ht fun b => ?_)
  obtain ⟨cd, hc, hd'⟩ := PySem.W.any_some hh
  have hx : s.heap.get? x = some ⟨.ref C, some dx, .plain, #[]⟩ := I.obj
  refine wpAny_bind (wpAny_pure (wpAny_bind (wpAny_bind (wpAny_loadPart hx (wpAny_bind (PySem.W.Looks.here (s := { s with toks := s.toks + 1 }) (PySem.W.looks_clsIn X hc) ?_))))))
  rw [hd']
  refine wpAny_pure (a := some dx) (wpAny_bind (wpAny_pure (wpAny_bind ?_)))
  refine wpAny_nsSet1 (s := { s with toks := s.toks + 1 }) I.ns fun h' hn2 hs2 => ?_
  obtain ⟨oD, esD, epD, hoD, hdD, hcD⟩ := hn2.count (PySem.Within.cons name v hw)
  refine wpAny_bind (wpAny_lookBehind hoD (by rw [hdD]; exact pastItsLine_dict (Nat.le_trans hcD (by rw [List.length_cons]; omega))) ?_)
  exact wpAny_pure (h _ ⟨(hs2.2 _ (Ne.symm I.ne)).trans I.obj, hn2, I.ne⟩ hs2)

/-- C(..): the dict at the heap's end, the instance behind it; then its __init__ -/
theorem make_map {R : Result → Shared → Prop} {vs : List Value} {kw : List (Str × Value)} (X : K.In s.heap) (hm : PySem.W.makesIn K C = true)
    (hi : PySem.W.findIn K (.ref C) "__init__" = some (some (.ref f))) (hf : PySem.W.typeIn K (.ref f) = some (.type "function"))
    (h : codeAny (model prog w) (A.under (.builtin "type.__call__" ⟨.ref C :: vs, kw⟩)) (.call (.ref f) ⟨.ref (s.heap.objs.size + 1) :: vs, kw⟩) (PySem.W.InitBack (s.heap.objs.size + 1) R)
      { s with heap := (s.heap.push PySem.W.emptyDict).push (PySem.W.instObj C s.heap.objs.size) }) :
    codeAny (model prog w) A (.call (.ref C) ⟨vs, kw⟩) R s := by
  obtain ⟨hh, g, d, t, os⟩ := s
  exact PySem.W.make_core (PySem.W.makes_of X hm) (PySem.W.looks_findIn X hi) (fun self => PySem.W.bind_fn X self hf) (.inl rfl) h
end

def putF (f : Str) (v : V) : List (Str × V) → List (Str × V)
  | [] => [(f, v)]
  | (g, x) :: r => if g = f then (g, v) :: r else (g, x) :: putF f v r
theorem lookup_putF (f g : Str) (v : V) : ∀ fs : List (Str × V), (putF f v fs).lookup g = if g = f then some v else fs.lookup g
  | [] => by
    show List.lookup g [(f, v)] = _
    by_cases h : g = f
    · have hb : (g == f) = true := beq_iff_eq.mpr h
      simp only [List.lookup, hb, if_pos h]
    · have hb : (g == f) = false := beq_eq_false_iff_ne.mpr h
      simp only [List.lookup, hb, if_neg h]
  | (k, x) :: r => by
    have ih := lookup_putF f g v r
    rw [show putF f v ((k, x) :: r) = (if k = f then (k, v) :: r else (k, x) :: putF f v r) from rfl]
    by_cases hk : k = f
    · rw [if_pos hk]
      by_cases h : g = k
      · have hb : (g == k) = true := beq_iff_eq.mpr h
        simp only [List.lookup, hb, if_pos (h.trans hk)]
      · have hb : (g == k) = false := beq_eq_false_iff_ne.mpr h
        simp only [List.lookup, hb, if_neg (fun e : g = f => h (e.trans hk.symm))]
    · rw [if_neg hk]
      by_cases h : g = k
      · have hb : (g == k) = true := beq_iff_eq.mpr h
        simp only [List.lookup, hb, if_neg (fun e : g = f => hk (h.symm.trans e))]
      · have hb : (g == k) = false := beq_eq_false_iff_ne.mpr h
        simp only [List.lookup, hb]
        exact ih
theorem keys_putF (f : Str) (v : V) : ∀ fs : List (Str × V), f ∈ (putF f v fs).map (·.1) ∧ ∀ g, g ∈ fs.map (·.1) → g ∈ (putF f v fs).map (·.1)
  | [] => ⟨by simp [putF], fun g h => by simp at h⟩
  | (k, x) :: r => by
    obtain ⟨i1, i2⟩ := keys_putF f v r
    rw [show putF f v ((k, x) :: r) = (if k = f then (k, v) :: r else (k, x) :: putF f v r) from rfl]
    by_cases hk : k = f
    · rw [if_pos hk]
      subst hk
      exact ⟨by simp, fun g h => by simpa using h⟩
    · rw [if_neg hk]
      refine ⟨?_, fun g h => ?_⟩
      · rw [List.map_cons]
        exact List.mem_cons_of_mem _ i1
      · rw [List.map_cons] at h ⊢
        rcases List.mem_cons.mp h with e | e
        · exact List.mem_cons.mpr (.inl e)
        · exact List.mem_cons_of_mem _ (i2 g e)
theorem length_putF (f : Str) (v : V) : ∀ fs : List (Str × V), (putF f v fs).length ≤ fs.length + 1
  | [] => by simp [putF]
  | (k, x) :: r => by
    have ih := length_putF f v r
    rw [show putF f v ((k, x) :: r) = (if k = f then (k, v) :: r else (k, x) :: putF f v r) from rfl]
    by_cases hk : k = f
    · rw [if_pos hk, List.length_cons, List.length_cons]; omega
    · rw [if_neg hk, List.length_cons, List.length_cons]; omega

theorem RelO.some_of {v : V} {o : Option Value} (r : RelO (some v) o) : ∃ u, o = some u ∧ RelV v u := by
  cases o with
  | none => exact (show False from r).elim
  | some u => exact ⟨u, rfl, r⟩
theorem RelO.none_of {o : Option Value} (r : RelO none o) : o = none := by
  cases o with
  | none => rfl
  | some u => exact (show False from r).elim
theorem handed_of {v : V} {u : Value} (r : RelV v u) : PySem.W.handedIn u = true := by
  cases v with
  | non => cases (show u = Value.none from r); rfl
  | bl b => cases (show u = Value.bool b from r); rfl
  | int i => obtain ⟨t, e⟩ := (show ∃ t, u = Value.int i t from r); cases e; rfl
  | str x => obtain ⟨t, e⟩ := (show ∃ t, u = Value.str x t from r); cases e; rfl
  | byt b => obtain ⟨t, e⟩ := (show ∃ t, u = Value.bytes b t from r); cases e; rfl
  | flt b => obtain ⟨t, e⟩ := (show ∃ t, u = Value.float b t from r); cases e; rfl
  | ref a => cases (show u = Value.ref a from r); rfl
  | ty n => cases (show u = Value.type n from r); rfl

section
variable {P : Program} {w : World} {H H' : Hp} {h h' : Heap} {a C dx : Addr} {fs fs' : List (Str × V)}
theorem ins_get (hok : HOk P w H h) (e : H a = some (.ins C dx fs)) : ∃ mA, ObjM h a dx C mA ∧ (∀ f, RelO (fs.lookup f) (mA f)) ∧ PySem.Within mA (fs.map (·.1)) ∧ fs.length ≤ 1000 ∧ H dx = some (.own a) := by
  obtain ⟨d, z, ne, ob, mA, n, r, q⟩ := (show ObjOk P w H h a (.ins C dx fs) from hok a _ e)
  exact ⟨mA, ⟨ob, n, ne⟩, r, q, z, d⟩
end

structure Cls (K : PySem.W.Frag) (C : Addr) : Prop where
  pg : PySem.W.plainGet K C Str.empty = true
  hd : PySem.W.hasDictIn K C = true
  po : PySem.W.plainOver K C = true
  sa : PySem.W.findIn K (.ref C) "__setattr__" = some (some (.builtin "object.__setattr__"))
theorem Cls.get {K : PySem.W.Frag} {C : Addr} (c : Cls K C) (f : Str) : PySem.W.plainGet K C f = true := c.pg
/-- no class of it has the name -/
def NoAttr (K : PySem.W.Frag) (C : Addr) (f : Str) : Prop := PySem.W.findIn K (.ref C) f = some none
theorem NoAttr.taker {K : PySem.W.Frag} {C : Addr} {f : Str} (n : NoAttr K C f) : PySem.W.takerIn K C f = some none := by
  unfold PySem.W.takerIn
  rw [show PySem.W.findIn K (.ref C) f = some none from n]
  rfl
/-- a method: a plain def of the class or of one above it -/
structure Meth (K : PySem.W.Frag) (C : Addr) (m : Str) (f : Addr) : Prop where
  at_ : PySem.W.findIn K (.ref C) m = some (some (.ref f))
  fn : PySem.W.isFn K (.ref f) = true
  kp : PySem.W.keepIn K (.ref f) = true

section
variable {X : Cx} {pins : List (Addr × Obj)} {σ : St} {H : Hp} {s : Shared} {a C dx : Addr} {fs : List (Str × V)} {f : Str} {v : V} {A : Around} {E : Value → Shared → Prop}

theorem getattr_ok {b : Bool} {Q : Value → Shared → Prop} (I : Inv X pins σ H s) (e : H a = some (.ins C dx fs)) (c : Cls X.K C) (n : NoAttr X.K C f) (l : fs.lookup f = some v)
    (h : ∀ u s', Inv X pins σ H s' → RelV v u → Q u s') : wpAny (model X.prog X.w) A (getAttr (.ref a) f b) Q E s := by
  obtain ⟨mA, O, r, _, _, _⟩ := ins_get I.hok e
  obtain ⟨u, hu, ru⟩ := RelO.some_of (v := v) (o := mA f) (by rw [← l]; exact r f)
  exact get_map I.kIn O (c.get f) c.hd n hu (handed_of ru) (h u _ (I.tok _) ru)

theorem getmeth_ok {m : Str} {g : Addr} {pl : Sem Bool} {Q : Value × List Value → Shared → Prop} (I : Inv X pins σ H s) (e : H a = some (.ins C dx fs)) (c : Cls X.K C) (k : Meth X.K C m g) (l : fs.lookup m = none)
    (h : Q (.ref g, [.ref a]) s) : wpAny (model X.prog X.w) A (getMethod (.ref a) m pl) Q E s := by
  obtain ⟨mA, O, r, _, _, _⟩ := ins_get I.hok e
  have hn : mA m = none := RelO.none_of (by rw [← l]; exact r m)
  exact get_meth I.kIn O (c.get m) k.at_ k.fn hn h

theorem setattr_ok {y : V} {u : Value} {Q : Unit → Shared → Prop} (I : Inv X pins σ H s) (e : H a = some (.ins C dx fs)) (c : Cls X.K C) (n : NoAttr X.K C f) (hl : fs.length < 1000) (ry : RelV y u)
    (h : ∀ s', Inv X pins σ (upd H a (.ins C dx (putF f y fs))) s' → Q () s') : wpAny (model X.prog X.w) A (setAttr (.ref a) f u) Q E s := by
  obtain ⟨mA, O, r, wi, _, ho⟩ := ins_get I.hok e
  have hz : (fs.map (·.1)).length ≤ sizeLine := by rw [List.length_map, sizeLine_eq]; omega
  refine set_map I.kIn O c.sa c.po n.taker c.hd wi hz fun h' O' sb => h _ ?_
  have hd : ∃ o, h'.get? dx = some o := let ⟨o, _, _, e', _⟩ := O'.ns; ⟨o, e'⟩
  refine I.write (x := a) (e := dx) (by rw [e]; exact True.intro) (.inr ho) (fun b q hb z => (sb.2 b hb).trans z) hd ?_
  refine ⟨by rw [upd_ne O.ne]; exact ho, ?_, O.ne, O'.obj, _, O'.ns, fun g => ?_, fun g hg => ?_⟩
  · have := length_putF f y fs; omega
  · show RelO ((putF f y fs).lookup g) (if g = f then some u else mA g)
    rw [lookup_putF]
    by_cases q : g = f
    · rw [if_pos q, if_pos q]; exact ry
    · rw [if_neg q, if_neg q]; exact r g
  · by_cases q : g = f
    · rw [q]; exact (keys_putF f y fs).1
    · refine (keys_putF f y fs).2 g (wi g fun z => hg ?_)
      show (if g = f then some u else mA g) = none
      rw [if_neg q]; exact z

/-- a new instance, tracked, without attributes -/
theorem Inv.made (I : Inv X pins σ H s) : Inv X pins σ (upd (upd H s.heap.objs.size (.own (s.heap.objs.size + 1))) (s.heap.objs.size + 1) (.ins C s.heap.objs.size []))
    { s with heap := (s.heap.push PySem.W.emptyDict).push (PySem.W.instObj C s.heap.objs.size) } := by
  have e1 : (s.heap.push PySem.W.emptyDict).get? s.heap.objs.size = some PySem.W.emptyDict := Heap.get?_push_size s.heap rfl
  have e2 : ((s.heap.push PySem.W.emptyDict).push (PySem.W.instObj C s.heap.objs.size)).get? (s.heap.objs.size + 1) = some (PySem.W.instObj C s.heap.objs.size) := by
    have := Heap.get?_push_size (s.heap.push PySem.W.emptyDict) (o := PySem.W.instObj C s.heap.objs.size) rfl
    rwa [Heap.size_push] at this
  have e3 : (s.heap.push PySem.W.emptyDict).Ns s.heap.objs.size (fun _ => none) := ⟨PySem.W.emptyDict, #[], _, e1, rfl, (fun e he => absurd he (by simp)), fun _ => rfl⟩
  have I1 := I.laid (a := s.heap.objs.size) (o := .own (s.heap.objs.size + 1)) (h' := s.heap.push PySem.W.emptyDict) (t' := s.toks) (fun b u q => Heap.get?_push_of_some _ q) (Nat.le_refl _) ⟨_, e1⟩
  refine I1.laid (a := s.heap.objs.size + 1) (o := .ins C s.heap.objs.size []) (t' := s.toks) (fun b u q => Heap.get?_push_of_some _ q) (Nat.le_of_eq (Heap.size_push _ _)) ?_
  have ne : s.heap.objs.size ≠ s.heap.objs.size + 1 := Nat.ne_of_lt (Nat.lt_succ_self _)
  refine ⟨by rw [upd_ne ne, upd_same], Nat.zero_le _, ne, e2, fun _ => none, (Heap.Ns1.of_empty e3).at fun o q => Heap.get?_push_of_some _ q, fun _ => True.intro, fun y hy => absurd rfl hy⟩

/-- e.f where nothing but the object is asked: through attributeBase (super) and the last hold -/
theorem attr_of {prog : Program} {w : World} {env : Env} {e : Expr} {f : Str} {pos : Pos} {s : Shared} {Q : Value → Shared → Prop} (hb : attributeBase e f env (eval e env) = eval e env)
    (h : wpAny (model prog w) A (eval e env) (fun o s₁ => wpAny (model prog w) A (getAttr o f true) Q E s₁) E s) : wpAny (model prog w) A (eval (.Attribute e f pos) env) Q E s :=
  Attribute_any_ h (by rw [arm_eval_Attribute, hb])
end

section
variable {X : Cx} {o e value : Expr} {f : Str} {pos pos' tpos : Pos} {ta tv : TE}
/-- what is between an instance and its method: the tree of a method call -/
theorem methcall_of {pl : Sem Bool} {m : Str} {apos : Pos} {args : List Expr} {pins : List (Addr × Obj)} {s : Shared} {σ : St} {H : Hp} {Q : Value → Shared → Prop} {te : TE} (he : PE X e te) (I : Inv X pins σ H s)
    (h : te σ H fun x H1 => ∃ a C dx fs g, x = .ref a ∧ H1 a = some (.ins C dx fs) ∧ Cls X.K C ∧ Meth X.K C m g ∧ fs.lookup m = none ∧
      ∀ s1, Inv X pins σ H1 s1 → wpAny (model X.prog X.w) X.A (callWith pos (.ref g) [.ref a] (backTo pos (starEach args X.env)) (backToKw pos (keywordEach [] X.env))) Q X.xe s1)
    (ht : eval (.Call (.Attribute e m apos) args [] pos) X.env = (do
      let ov ← eval e X.env
      standAt apos.atName
      let (f, first) ← holding [ov] (getMethod ov m pl)
      callWith pos f first (backTo pos (starEach args X.env)) (backToKw pos (keywordEach [] X.env)))) :
    wpAny (model X.prog X.w) X.A (eval (.Call (.Attribute e m apos) args [] pos) X.env) Q X.xe s := by
  refine PySem.W.methodCall_KW (pl := pl) (thn (he pins s σ H _ I h) fun u s1 ⟨x, H1, I1, rx, a, C, dx, fs, g, ex, ea, c, k, l, q⟩ => ?_) ht
  subst ex
  obtain rfl : u = Value.ref a := rx
  exact getmeth_ok I1 ea c k l (q s1 I1)
end

section
variable {X : Cx} {pins : List (Addr × Obj)} {σ : St} {H : Hp} {s : Shared} {A : Around} {E : Value → Shared → Prop} {Q : Value → Shared → Prop} {c : Value} {b : Bool}
end
end L2

namespace L2
open PySem PySem.Spec PyProof.Rows

structure Room (k : Nat) (A : Around) : Prop where
  hd : A.handled = none
  dp : A.depth + 3 * k + 5 < recursionLimit
  un : A.units + 16 * k + 200 < cLine
theorem Room.mono {j k : Nat} {A : Around} (r : Room k A) (h : j ≤ k) : Room j A := ⟨r.hd, by have := r.dp; omega, by have := r.un; omega⟩
theorem Room.deeper {k : Nat} {A : Around} (r : Room (k + 1) A) (env : Env) : Room k (A.deeper env) :=
  ⟨r.hd, by have := r.dp; show A.depth + 1 + 3 * k + 5 < _; omega, by have := r.un; show A.units + 3 + 16 * k + 200 < _; omega⟩
theorem make_depth {A : Around} {C : Addr} {us : List Value} {kw : List (Str × Value)} : (A.under (.builtin "type.__call__" ⟨.ref C :: us, kw⟩)).depth = A.depth + 1 := by
  first | rfl | simp [Around.under, Code.weight, Code.isCreation, Code.isGuard, Code.isCaller, Code.frames, Code.isFrame, guardIds]
theorem make_units {A : Around} {C : Addr} {us : List Value} {kw : List (Str × Value)} : (A.under (.builtin "type.__call__" ⟨.ref C :: us, kw⟩)).units = A.units + 1 := by
  first | rfl | simp [Around.under, Code.cUnits, Code.frames, Code.isFrame]
theorem Room.make {k : Nat} {A : Around} (r : Room (k + 1) A) (C : Addr) (us : List Value) (kw : List (Str × Value)) : Room k (A.under (.builtin "type.__call__" ⟨.ref C :: us, kw⟩)) :=
  ⟨r.hd, by have := r.dp; rw [make_depth]; omega, by have := r.un; rw [make_units]; omega⟩
theorem Room.depth {k : Nat} {A : Around} (r : Room k A) : A.depth < recursionLimit := by have := r.dp; omega
def tNil : TA := fun _ H Q => Q [] H
def tCons (ta : TE) (tr : TA) : TA := fun σ H Q => ta σ H fun x H1 => tr σ H1 fun xs H2 => Q (x :: xs) H2
section
variable {X : Cx} {e : Expr} {es : List Expr} {te : TE} {t : TA} {pos : Pos}
theorem pa_nil : PA X [] tNil := fun _ _ _ _ H Q I h => Calls.spliced_nil ⟨[], H, I, .nil, h⟩
theorem pa_cons (ha : PE X e te) (hr : PA X es t) (hs : starEach (e :: es) X.env = (false, eval e X.env) :: starEach es X.env := by rfl) : PA X (e :: es) (tCons te t) := by
  intro pos pins s σ H Q I h
  rw [hs]
  show wpAny _ _ (spliced ((false, eval e X.env) :: backTo pos (starEach es X.env))) _ _ s
  refine Calls.spliced_cons (thn (ha pins s σ H _ I h) fun u s1 ⟨x, H1, I1, r1, q1⟩ => ?_)
  exact thn (hr pos pins s1 σ H1 _ I1 q1) fun us s2 ⟨xs, H2, I2, r2, q2⟩ => ⟨x :: xs, H2, I2, .cons r1 r2, q2⟩

/-- a tuple, a list of written items -/
def tTup (t : TA) : TE := fun σ H Q => t σ H fun xs H1 => xs.length ≤ sizeLine ∧ ∀ p, H1 p = none → Q (.ref p) (upd H1 p (.tup xs))
def tLst (t : TA) : TE := fun σ H Q => t σ H fun xs H1 => xs.length ≤ sizeLine ∧ ∀ p, H1 p = none → Q (.ref p) (upd H1 p (.lst xs))
theorem pe_tup {x1} (h : PA X es t) : PE X (.Tuple es x1 pos) (tTup t) := by
  intro pins s σ H Q I hq
  refine wpAny_Tuple_spliced (thn (h pos pins s σ H _ I hq) fun us s1 ⟨xs, H1, I1, r, z, q⟩ => ⟨by rw [← r.length]; exact z, ?_⟩)
  have hf : H1 s1.heap.objs.size = none := I1.hok.fresh (Nat.le_refl _)
  refine ⟨.ref s1.heap.objs.size, upd H1 s1.heap.objs.size (.tup xs), I1.laid (t' := s1.toks) (fun b u e => Heap.get?_push_of_some _ e) (Nat.le_refl _) ?_, rfl, q _ hf⟩
  exact ⟨z, us, r, ⟨_, Heap.get?_push_size _ rfl, rfl, _, rfl⟩⟩
theorem pe_lst (h : PA X es t) : PE X (.List es pos) (tLst t) := by
  intro pins s σ H Q I hq
  refine wpAny_List_spliced (thn (h pos pins s σ H _ I hq) fun us s1 ⟨xs, H1, I1, r, z, q⟩ => ⟨by rw [← r.length]; exact z, ?_⟩)
  have hf : H1 s1.heap.objs.size = none := I1.hok.fresh (Nat.le_refl _)
  refine ⟨.ref s1.heap.objs.size, upd H1 s1.heap.objs.size (.lst xs), I1.laid (t' := s1.toks) (fun b u e => Heap.get?_push_of_some _ e) (Nat.le_refl _) ?_, rfl, q _ hf⟩
  exact ⟨z, us, 0, r, Heap.get?_push_size _ rfl⟩
end

/-- a def's promise: the bound arguments in the parameters' order, the heap, the wanted end, the wanted exception -/
abbrev Sp := List V → Hp → VK → XK → Prop
/-- how an exception lies behind a call (file 08 gives it): the callers' frames, abstract heap and state ahead of the call, the wish, the exception, the state -/
abbrev CXT := List Env → Hp → Shared → XK → Value → Shared → Prop

/-- the state at a call -/
structure Env0 (P : Program) (w : World) (K : PySem.W.Frag) (mg : Str → Option Value) (base : Heap) (A : Around) (outer : List Env) (s : Shared) (H : Hp) : Prop where
  frames : A.frames = some outer
  mod : Mod K mg base
  bs : ∀ b o, base.get? b = some o → s.heap.get? b = some o ∧ H b = none
  bsz : base.objs.size ≤ s.heap.objs.size
  funs : s.heap.FunFrames base outer
  frf : ∀ b ∈ frs outer, H b = none
  hok : HOk P w H s.heap
  bare : AllBare s.gens
/-- a call's end -/
def CE (outer : List Env) (P : Program) (w : World) (H : Hp) (s : Shared) (Q : VK) (u : Value) (s' : Shared) : Prop :=
  ∃ v H', s'.os = s.os ∧ AllBare s'.gens ∧ Un (frs outer) [] H H' s.heap s'.heap ∧ HOk P w H' s'.heap ∧ RelV v u ∧ Q v H'
def CR (CX : CXT) (outer : List Env) (P : Program) (w : World) (H : Hp) (s : Shared) (Q : VK) (E : XK) (r : Result) (s' : Shared) : Prop :=
  match r with
  | .ok (.ret u) => CE outer P w H s Q u s'
  | .ok _ => False
  | .error e => CX outer H s E e s'
structure FnOk (P : Program) (w : World) (K : PySem.W.Frag) (mg : Str → Option Value) (base : Heap) (CX : CXT) (k : Nat) (f : Addr) (fd : FuncData) (ps : List Str) (sp : Sp) : Prop where
  len : ∀ vs H Q E, sp vs H Q E → vs.length = ps.length
  run : ∀ (A : Around) (outer : List Env) (s : Shared) (H : Hp) (args : Args) (us : List Value) (vs : List V) (Q : VK) (E : XK), Room k A → Env0 P w K mg base A outer s H → BindsTo s fd args (ps.zip us) → Vals vs us → sp vs H Q E →
    codeAny (model P w) A (.call (.ref f) args) (CR CX outer P w H s Q E) s
/-- a weaker promise -/
theorem FnOk.imp {P : Program} {w : World} {K : PySem.W.Frag} {mg : Str → Option Value} {base : Heap} {CX : CXT} {k : Nat} {f : Addr} {fd : FuncData} {ps : List Str} {sp sp' : Sp} (F : FnOk P w K mg base CX k f fd ps sp)
    (h : ∀ vs H Q E, sp' vs H Q E → sp vs H Q E) : FnOk P w K mg base CX k f fd ps sp' :=
  ⟨fun vs H Q E q => F.len vs H Q E (h _ _ _ _ q), fun A outer s H args us vs Q E hr he hb hv hs => F.run A outer s H args us vs Q E hr he hb hv (h _ _ _ _ hs)⟩

theorem Env0.make {P : Program} {w : World} {K : PySem.W.Frag} {mg : Str → Option Value} {base : Heap} {A : Around} {outer : List Env} {s : Shared} {H : Hp} (e : Env0 P w K mg base A outer s H) (C : Addr) (us : List Value) (kw : List (Str × Value)) :
    Env0 P w K mg base (A.under (.builtin "type.__call__" ⟨.ref C :: us, kw⟩)) outer s H := ⟨by first | exact e.frames | (simpa [Around.under, Code.envs, Code.isFrame, pushEnvs] using e.frames), e.mod, e.bs, e.bsz, e.funs, e.frf, e.hok, e.bare⟩
section
variable {X : Cx} {pins : List (Addr × Obj)} {σ : St} {H : Hp} {s s' : Shared}
/-- from a body: what a callee wants -/
theorem Inv.env0 (I : Inv X pins σ H s) : Env0 X.prog X.w X.K X.mg X.base X.A X.stack s H :=
  ⟨I.ok.frames, I.ok.mod, I.bs, Nat.le_trans I.ok.bsz I.sz, I.stack, I.stkFree, I.hok, I.bare⟩
/-- behind a call -/
theorem Inv.after {Q : VK} {u : Value} (I : Inv X pins σ H s) (h : CE X.stack X.prog X.w H s Q u s') : EP X pins σ Q u s' := by
  obtain ⟨v, H', os, bare, un, hok, r, q⟩ := h
  obtain ⟨hh, g, d, t, os'⟩ := s'
  obtain rfl : os' = s.os := os
  exact ⟨v, H', I.call (h' := hh) (g' := g) (d' := d) (t' := t) (ch := []) un hok bare (fun b z => absurd z (by simp)), r, q⟩
end

/-- f(..): the written arguments, then the defaults dvs; E: what is wanted of an exception -/
def tCall (sp : Sp) (dvs : List V) (E : XK) (t : TA) : TE := fun σ H Q => t σ H fun vs H1 => sp (vs ++ dvs) H1 Q E
/-- o.m(..) of an instance of the class at C -/
def tMeth (C : Addr) (m : Str) (sp : Sp) (dvs : List V) (E : XK) (ta : TE) (t : TA) : TE := fun σ H Q => ta σ H fun x H1 => ∃ a dx fs, x = .ref a ∧ H1 a = some (.ins C dx fs) ∧ fs.lookup m = none ∧
  t σ H1 fun vs H2 => sp (x :: (vs ++ dvs)) H2 Q E
/-- C(..): a new instance and its dict, then __init__ -/
def tMake (C : Addr) (sp : Sp) (dvs : List V) (E : XK) (t : TA) : TE := fun σ H Q => t σ H fun vs H1 => ∀ x dx, H1 x = none → H1 dx = none → dx ≠ x →
  sp (.ref x :: (vs ++ dvs)) (upd (upd H1 dx (.own x)) x (.ins C dx [])) (fun v H2 => v = .non ∧ Q (.ref x) H2) E

/-- how the parameters are bound: us the positional arguments, kw the keywords' values by name, ds the defaults that fill up -/
def Binds (K : PySem.W.Frag) (fd : FuncData) (ps : List Str) (ds : List Value) : Prop :=
  ∀ (s : Shared) (us : List Value), K.In s.heap → (us ++ ds).length = ps.length → BindsTo s fd ⟨us, []⟩ (ps.zip (us ++ ds))
/-- every parameter is given -/
theorem Binds.all {K : PySem.W.Frag} {fd : FuncData} {ps : List Str} (h : ∀ us : List Value, us.length = ps.length → bindArgs fd ⟨us, []⟩ = pure (ps.zip us)) : Binds K fd ps [] := fun s us _ hl => by
  rw [List.append_nil] at hl ⊢
  exact .of_eq (h us hl)

/-- an exception of a callee reaches what this body wants of exceptions -/
def Passes (CX : CXT) (X : Cx) (E : XK) : Prop := ∀ (pins : List (Addr × Obj)) (σ : St) (H : Hp) (s : Shared) (e : Value) (s' : Shared), Inv X pins σ H s → CX X.stack H s E e s' → X.xe e s'

section
variable {X : Cx} {CX : CXT} {k : Nat} {f C : Addr} {fd : FuncData} {ps : List Str} {sp : Sp} {dvs : List V} {ds : List Value} {E : XK} {x m : Str} {p pos apos : Pos} {e o : Expr} {es : List Expr} {ta : TE} {t : TA}

/-- the callee runs -/
theorem run_fn {pins : List (Addr × Obj)} {σ : St} {H : Hp} {s : Shared} {Q : VK} {us : List Value} {vs : List V} (F : FnOk X.prog X.w X.K X.mg X.base CX k f fd ps sp) (hr : Room k X.A) (hb : Binds X.K fd ps ds) (hd : Vals dvs ds) (hx : Passes CX X E)
    (I : Inv X pins σ H s) (r : Vals vs us) (h : sp (vs ++ dvs) H Q E) : wpAny (model X.prog X.w) X.A (call (.ref f) us) (EP X pins σ Q) X.xe s := by
  have r2 : Vals (vs ++ dvs) (us ++ ds) := r.append hd
  have hl : (us ++ ds).length = ps.length := by rw [← r2.length]; exact F.len _ _ _ _ h
  refine wpAny_call (codeAny_mono (F.run X.A X.stack s H ⟨us, []⟩ (us ++ ds) (vs ++ dvs) Q E hr I.env0 (hb s us I.kIn hl) r2 h) fun r s' hq => ?_)
  cases r with
  | error e => exact hx pins σ H s e s' I hq
  | ok fl =>
    cases fl with
    | ret u => exact I.after hq
    | next => exact False.elim hq
    | brk => exact False.elim hq
    | cont => exact False.elim hq

theorem pe_call (F : FnOk X.prog X.w X.K X.mg X.base CX k f fd ps sp) (hr : Room k X.A) (hg : Gl X x) (hm : X.mg x = some (.ref f)) (hk : PySem.W.keepIn X.K (.ref f) = true) (hb : Binds X.K fd ps ds) (hd : Vals dvs ds) (hx : Passes CX X E)
    (ha : PA X (e :: es) t) (hdb : (x == ("__debug__" : Str)) = false := by decide) (he : starEach (e :: es) X.env = (false, eval e X.env) :: starEach es X.env := by rfl) (hpl : (backTo pos (starEach es X.env)).any (·.1) = false := by rfl) :
    PE X (.Call (.Name x p) (e :: es) [] pos) (tCall sp dvs E t) := by
  intro pins s σ H Q I h
  refine wpAny_Call_Name_kw (ld_glob I hg hm ?_ hdb)
  refine PySem.W.callWith_K (h₀ := X.base) I.ok.mod.kin hk (thn (ha pos pins s σ H _ I h) fun us s1 ⟨vs, H1, I1, r, q⟩ => ⟨I1.kIn, ?_⟩) he hpl
  exact run_fn F hr hb hd hx I1 r q
theorem pe_call0 (F : FnOk X.prog X.w X.K X.mg X.base CX k f fd ps sp) (hr : Room k X.A) (hg : Gl X x) (hm : X.mg x = some (.ref f)) (hk : PySem.W.keepIn X.K (.ref f) = true) (hb : Binds X.K fd ps ds) (hd : Vals dvs ds) (hx : Passes CX X E)
    (hdb : (x == ("__debug__" : Str)) = false := by decide) : PE X (.Call (.Name x p) [] [] pos) (tCall sp dvs E tNil) := by
  intro pins s σ H Q I h
  refine wpAny_Call_Name_kw (ld_glob I hg hm ?_ hdb)
  exact PySem.W.callWith_K0 I.kIn hk (run_fn (us := []) F hr hb hd hx I .nil h)

/-- o.m(e, ..) -/
theorem pe_meth {pl : Sem Bool} (he : PE X o ta) (c : Cls X.K C) (hm : Meth X.K C m f) (F : FnOk X.prog X.w X.K X.mg X.base CX k f fd ps sp) (hr : Room k X.A) (hb : Binds X.K fd ps ds) (hd : Vals dvs ds) (hx : Passes CX X E) (ha : PA X (e :: es) t)
    (hst : starEach (e :: es) X.env = (false, eval e X.env) :: starEach es X.env := by rfl) (hpl : (backTo pos (starEach es X.env)).any (·.1) = false := by rfl)
    (ht : eval (.Call (.Attribute o m apos) (e :: es) [] pos) X.env = (do
      let ov ← eval o X.env
      standAt apos.atName
      let (f, first) ← holding [ov] (getMethod ov m pl)
      callWith pos f first (backTo pos (starEach (e :: es) X.env)) (backToKw pos (keywordEach [] X.env))) := by rfl) :
    PE X (.Call (.Attribute o m apos) (e :: es) [] pos) (tMeth C m sp dvs E ta t) := by
  intro pins s σ H Q I h
  refine PySem.W.methodCall_KW (pl := pl) (thn (he pins s σ H _ I h) fun u s1 ⟨x, H1, I1, rx, a, dx, fs, ex, ea, l, q⟩ => ?_) ht
  subst ex
  obtain rfl : u = Value.ref a := rx
  refine getmeth_ok I1 ea c hm l ?_
  refine PySem.W.callWith_K (first := [.ref a]) (h₀ := X.base) I.ok.mod.kin hm.kp (thn (ha pos pins s1 σ H1 _ I1 q) fun us s2 ⟨vs, H2, I2, r, q2⟩ => ⟨I2.kIn, ?_⟩) hst hpl
  exact run_fn (us := .ref a :: us) (vs := .ref a :: vs) F hr hb hd hx I2 (.cons rfl r) q2
/-- o.m() -/
theorem pe_meth0 {pl : Sem Bool} (he : PE X o ta) (c : Cls X.K C) (hm : Meth X.K C m f) (F : FnOk X.prog X.w X.K X.mg X.base CX k f fd ps sp) (hr : Room k X.A) (hb : Binds X.K fd ps ds) (hd : Vals dvs ds) (hx : Passes CX X E)
    (ht : eval (.Call (.Attribute o m apos) [] [] pos) X.env = (do
      let ov ← eval o X.env
      standAt apos.atName
      let (f, first) ← holding [ov] (getMethod ov m pl)
      callWith pos f first (backTo pos (starEach [] X.env)) (backToKw pos (keywordEach [] X.env))) := by rfl) :
    PE X (.Call (.Attribute o m apos) [] [] pos) (tMeth C m sp dvs E ta tNil) := by
  intro pins s σ H Q I h
  refine PySem.W.methodCall_KW (pl := pl) (thn (he pins s σ H _ I h) fun u s1 ⟨x, H1, I1, rx, a, dx, fs, ex, ea, l, q⟩ => ?_) ht
  subst ex
  obtain rfl : u = Value.ref a := rx
  refine getmeth_ok I1 ea c hm l ?_
  exact PySem.W.callWith_K0 (first := [.ref a]) I1.kIn hm.kp (run_fn (us := [.ref a]) (vs := [.ref a]) F hr hb hd hx I1 (.cons rfl .nil) q)

/-- what a class must have to be made -/
structure Mk (K : PySem.W.Frag) (C f : Addr) : Prop where
  makes : PySem.W.makesIn K C = true
  init : PySem.W.findIn K (.ref C) "__init__" = some (some (.ref f))
  fn : PySem.W.isFn K (.ref f) = true
  kp : PySem.W.keepIn K (.ref C) = true

theorem run_make {pins : List (Addr × Obj)} {σ : St} {H : Hp} {s : Shared} {Q : VK} {us : List Value} {vs : List V} (M : Mk X.K C f) (F : FnOk X.prog X.w X.K X.mg X.base CX k f fd ps sp) (hr : Room (k + 1) X.A) (hb : Binds X.K fd ps ds) (hd : Vals dvs ds)
    (hx : Passes CX X E) (I : Inv X pins σ H s) (r : Vals vs us)
    (h : ∀ x dx, H x = none → H dx = none → dx ≠ x → sp (.ref x :: (vs ++ dvs)) (upd (upd H dx (.own x)) x (.ins C dx [])) (fun v H2 => v = .non ∧ Q (.ref x) H2) E) :
    wpAny (model X.prog X.w) X.A (call (.ref C) us) (EP X pins σ Q) X.xe s := by
  have hq := h (s.heap.objs.size + 1) s.heap.objs.size (I.hok.fresh (Nat.le_succ _)) (I.hok.fresh (Nat.le_refl _)) (Nat.ne_of_lt (Nat.lt_succ_self _))
  have I2 := Inv.made (C := C) I
  have r2 : Vals (V.ref (s.heap.objs.size + 1) :: (vs ++ dvs)) (Value.ref (s.heap.objs.size + 1) :: (us ++ ds)) := .cons rfl (r.append hd)
  have hl : (Value.ref (s.heap.objs.size + 1) :: us ++ ds).length = ps.length := by
    have e := r2.length
    rw [F.len _ _ _ _ hq] at e
    exact e.symm
  refine wpAny_call (make_map (f := f) I.kIn M.makes M.init (beq_iff_eq.mp M.fn) (codeAny_mono (F.run _ X.stack _ _ ⟨Value.ref (s.heap.objs.size + 1) :: us, []⟩ (Value.ref (s.heap.objs.size + 1) :: (us ++ ds)) _ _ E (hr.make C us [])
    (I2.env0.make C us []) (hb _ (Value.ref (s.heap.objs.size + 1) :: us) I2.kIn hl) r2 hq) fun r s' hq' => ?_))
  cases r with
  | error e => exact hx pins σ _ _ e s' I2 hq'
  | ok fl =>
    cases fl with
    | ret u =>
      obtain ⟨v, H', I3, rv, ev, q3⟩ := I2.after hq'
      subst ev
      exact ⟨rv, ⟨V.ref (s.heap.objs.size + 1), H', I3, rfl, q3⟩⟩
    | next => exact False.elim hq'
    | brk => exact False.elim hq'
    | cont => exact False.elim hq'
theorem pe_make0 (M : Mk X.K C f) (F : FnOk X.prog X.w X.K X.mg X.base CX k f fd ps sp) (hr : Room (k + 1) X.A) (hg : Gl X x) (hm : X.mg x = some (.ref C)) (hb : Binds X.K fd ps ds) (hd : Vals dvs ds) (hx : Passes CX X E)
    (hdb : (x == ("__debug__" : Str)) = false := by decide) : PE X (.Call (.Name x p) [] [] pos) (tMake C sp dvs E tNil) := by
  intro pins s σ H Q I h
  refine wpAny_Call_Name_kw (ld_glob I hg hm ?_ hdb)
  exact PySem.W.callWith_K0 I.kIn M.kp (run_make (us := []) M F hr hb hd hx I .nil h)
end

section
variable {X : Cx} {CX : CXT} {k : Nat} {f C : Addr} {fd : FuncData} {ps ks : List Str} {sp : Sp} {E : XK} {x m : Str} {p pos apos kpos : Pos} {e o : Expr} {es : List Expr} {kws : List Keyword} {te ta : TE} {t tk : TA} {nm : Option Str}
variable {g : List Value → List Value → List Value} {gV : List V → List V → List V}
end

/-- names: the parameters first -/
structure FnScope (N P : List Str) (sc : Scope) : Prop where
  kind : sc.kind = .function
  co : sc.isCoroutine = false
  gen : sc.isGenerator = false
  nd : N.Nodup
  pre : N.take P.length = P
  par : ∀ x ∈ P, sc.names.lookup x = some .local ∨ sc.names.lookup x = some .cell
  nofree : ∀ y ∈ sc.names, y.2 ≠ .free

theorem bindL_out {kindOf : Str → Option NameKind} {x : Str} : ∀ {binds : List (Str × Value)} {m : Str → Option Value}, (∀ v, (x, v) ∉ binds) → bindL kindOf binds m x = m x
  | [], _, _ => rfl
  | (n, v) :: r, m, h => by
    unfold bindL
    rw [bindL_out fun w hw => h w (List.mem_cons_of_mem _ hw)]
    split
    · have : x ≠ n := by rintro rfl; exact h v List.mem_cons_self
      simp [this]
    · rfl
theorem bindC_out {kindOf : Str → Option NameKind} {x : Str} : ∀ {binds : List (Str × Value)} {m : Str → Option Value}, (∀ v, (x, v) ∉ binds) → bindC kindOf binds m x = m x
  | [], _, _ => rfl
  | (n, v) :: r, m, h => by
    unfold bindC
    rw [bindC_out fun w hw => h w (List.mem_cons_of_mem _ hw)]
    split
    · rfl
    · have : x ≠ n := by rintro rfl; exact h v List.mem_cons_self
      simp [this]
theorem bindL_get {kindOf : Str → Option NameKind} {x : Str} {v : Value} : ∀ {P : List Str} {vs : List Value} {i : Nat} {m : Str → Option Value}, P.Nodup → P[i]? = some x → vs[i]? = some v → kindOf x = some .local →
    bindL kindOf (P.zip vs) m x = some v
  | [], _, _, _, _, h, _, _ => by simp at h
  | _ :: _, [], _, _, _, _, h, _ => by simp at h
  | p :: P, w :: vs, 0, m, nd, h1, h2, hk => by
    simp at h1 h2; subst h1; subst h2
    show bindL kindOf ((p, w) :: P.zip vs) m p = _
    unfold bindL
    rw [bindL_out fun v hv => (List.nodup_cons.mp nd).1 (List.of_mem_zip hv).1, if_pos hk]
    simp
  | p :: P, w :: vs, i + 1, m, nd, h1, h2, hk => by
    show bindL kindOf ((p, w) :: P.zip vs) m x = _
    unfold bindL
    exact bindL_get (i := i) (List.nodup_cons.mp nd).2 (by simpa using h1) (by simpa using h2) hk
theorem bindC_get {kindOf : Str → Option NameKind} {x : Str} {v : Value} : ∀ {P : List Str} {vs : List Value} {i : Nat} {m : Str → Option Value}, P.Nodup → P[i]? = some x → vs[i]? = some v → kindOf x ≠ some .local →
    bindC kindOf (P.zip vs) m x = some v
  | [], _, _, _, _, h, _, _ => by simp at h
  | _ :: _, [], _, _, _, _, h, _ => by simp at h
  | p :: P, w :: vs, 0, m, nd, h1, h2, hk => by
    simp at h1 h2; subst h1; subst h2
    show bindC kindOf ((p, w) :: P.zip vs) m p = _
    unfold bindC
    rw [bindC_out fun v hv => (List.nodup_cons.mp nd).1 (List.of_mem_zip hv).1, if_neg hk]
    simp
  | p :: P, w :: vs, i + 1, m, nd, h1, h2, hk => by
    show bindC kindOf ((p, w) :: P.zip vs) m x = _
    unfold bindC
    exact bindC_get (i := i) (List.nodup_cons.mp nd).2 (by simpa using h1) (by simpa using h2) hk

/-- the names' values at the entry -/
def start (N : List Str) (vs : List V) : St := vs.map some ++ List.replicate (N.length - vs.length) none

/-- the context of a def's body, at its entry; an exception leaves the frame, then lies as CX says -/
def cxOf (CX : CXT) (P : Program) (w : World) (K : PySem.W.Frag) (mg : Str → Option Value) (base : Heap) (N : List Str) (qual : Str) (scope : Scope) (f : Addr) (cd : Value) (A : Around) (outer : List Env) (s : Shared) (H : Hp) (E : XK) : Cx where
  prog := P
  w := w
  K := K
  mg := mg
  base := base
  A := A.deeper (envOfC qual scope s.heap.objs.size f cd)
  N := N
  s_0 := s
  H_0 := H
  env := envOfC qual scope s.heap.objs.size f cd
  outer := outer
  stack := envOfC qual scope s.heap.objs.size f cd :: outer
  ex := []
  calm := true
  fn := fun _ => true
  pn := []
  xe := fun e s' => wpAny (model P w) (A.deeper (envOfC qual scope s.heap.objs.size f cd)) (leaving (envOfC qual scope s.heap.objs.size f cd) e) (fun _ s'' => CX outer H s E e s'') (fun e' s'' => CX outer H s E e' s'') s'

theorem cell_has {sc : Scope} {n : Nat} {x : Str} (h : sc.names.lookup x = some .cell) : ∃ c, (cellsFrom n sc.names []).lookup x = some c := by
  have q := PySem.W.cellsFrom_some sc.names n [] (.inl h)
  exact Option.isSome_iff_exists.mp q

theorem inv_start {CX : CXT} {P : Program} {w : World} {K : PySem.W.Frag} {mg : Str → Option Value} {base : Heap} {N ps : List Str} {qual : Str} {scope : Scope} {f : Addr} {cd : Value} {A : Around} {outer : List Env} {s s1 : Shared} {H : Hp} {E : XK} {us : List Value} {vs : List V}
    (S : FnScope N ps scope) (hd : A.handled = none) (e0 : Env0 P w K mg base A outer s H) (hl : vs.length = ps.length) (r : Vals vs us)
    (x : InCallC s s.heap.objs.size (bindL (envOfC qual scope s.heap.objs.size f cd).kindOf (ps.zip us) fun _ => none) (cellsFrom (s.heap.objs.size + 1) scope.names []) (bindC (envOfC qual scope s.heap.objs.size f cd).kindOf (ps.zip us) fun _ => none) s1) :
    Inv (cxOf CX P w K mg base N qual scope f cd A outer s H E) [] (start N vs) H s1 := by
  have hpl : ps.length ≤ N.length := by have := congrArg List.length S.pre; rw [List.length_take] at this; omega
  obtain ⟨h1, tk, rfl, hk⟩ := x.done
  have noA : ∀ b : Addr, b ∉ (cxOf CX P w K mg base N qual scope f cd A outer s H E).ex := fun b z => absurd (show b ∈ ([] : List Addr) from z) (by simp)
  refine ⟨⟨e0.mod, S.kind, rfl, rfl, Nat.le_refl _, fun y z c h1 h2 => ?_, fun y hy => ?_, fun y c _ h => ?_, fun _ => hd, Around.frames_deeper e0.frames, .inr ⟨rfl, rfl⟩, fun b z => absurd z (noA b), e0.bs, e0.bsz, fun b _ _ => noA b, fun b z => absurd z (noA b), e0.funs, e0.frf⟩,
    rfl, e0.bare, Un.kept hk, ⟨_, x.toInCall.ns, fun i y v h1 h2 h3 => ?_⟩, fun y c h => ⟨_, x.cell y c h⟩, e0.hok.fresh (Nat.le_refl _), fun y c h => ?_, fun p hp => absurd (show p ∈ ([] : List (Addr × Obj)) from hp) (by simp), e0.hok.kept hk, ?_⟩
  · exact name_of_addr x.apart (PySem.mem_of_lookup h1) (PySem.mem_of_lookup h2)
  · have hy : scope.names.lookup y = some .cell ∨ scope.names.lookup y = some .free := hy
    rcases hy with hy | hy
    · exact cell_has hy
    · exact absurd rfl (S.nofree _ (PySem.mem_of_lookup hy))
  · exact Nat.le_of_lt (x.above y c (PySem.mem_of_lookup h))
  · have hi : i < vs.length := by
      unfold start at h2
      by_cases hi : i < vs.length
      · exact hi
      · rw [List.getElem?_append_right (by simpa using hi)] at h2
        rw [List.getElem?_replicate] at h2
        split at h2 <;> cases h2
    have ha : vs[i]? = some v := by
      unfold start at h2
      rw [List.getElem?_append_left (by simpa using hi), List.getElem?_map] at h2
      cases e : vs[i]? with
      | none => rw [e] at h2; cases h2
      | some a => rw [e] at h2; cases h2; rfl
    obtain ⟨u, hu, rv⟩ := r.get ha
    have hp : ps[i]? = some y := by
      rw [← S.pre, List.getElem?_take_of_lt (by omega)]; exact h1
    have ndP : ps.Nodup := by rw [← S.pre]; exact S.nd.sublist (List.take_sublist _ _)
    refine ⟨u, rv, ?_⟩
    rcases S.par y (List.mem_of_getElem? hp) with k | k
    · exact .inl ⟨k, bindL_get ndP hp hu k⟩
    · obtain ⟨c, e⟩ := cell_has (n := s.heap.objs.size + 1) k
      refine .inr ⟨.inl k, c, e, ?_⟩
      have q := x.cell y c e
      rw [bindC_get ndP hp hu (by show scope.names.lookup y ≠ _; rw [k]; decide)] at q
      exact q
  · exact e0.hok.fresh (Nat.le_of_lt (x.above y c (PySem.mem_of_lookup h)))
  · unfold start
    show _ = N.length
    rw [List.length_append, List.length_map, List.length_replicate]
    omega

/-- THE RULE: a def (or a method) of the text, by its body. The body's reading t is chosen for each entry; it is run at the parameters' values -/
theorem fn_of {CX : CXT} {P : Program} {w : World} {K : PySem.W.Frag} {mg : Str → Option Value} {base : Heap} {k : Nat} {f : Addr} {name qual : Str} {params : Arguments} {body : List Stmt} {scope : Scope} {dV kV doc pm cdv ct oc : Value} {an od : Option Addr}
    {osl : Array (Option Value)} {N ps : List Str} {sp : Sp} (lk : K.lookup f = some ⟨oc, od, .func (PySem.W.fnOf name qual params body scope dV kV doc pm an cdv ct), osl⟩) (hcd : PySem.W.codeIn K cdv qual = true) (S : FnScope N ps scope)
    (len : ∀ vs H Q E, sp vs H Q E → vs.length = ps.length)
    (hbody : ∀ (A : Around) (outer : List Env) (s : Shared) (H : Hp) (vs : List V) (Q : VK) (E : XK), Room k (A.deeper (envOfC qual scope s.heap.objs.size f cdv)) → sp vs H Q E →
      ∃ t, PSs (cxOf CX P w K mg base N qual scope f cdv A outer s H E) body t ∧ t { nx := fun _ H' => Q .non H', rt := Q } (start N vs) H) :
    FnOk P w K mg base CX (k + 1) f (PySem.W.fnOf name qual params body scope dV kV doc pm an cdv ct) ps sp := by
  refine ⟨len, fun A outer s H args us vs Q E hr e0 hb r hsp => ?_⟩
  have hl := len _ _ _ _ hsp
  have KX : K.In s.heap := e0.mod.kin.keeps fun b o e => (e0.bs b o e).1
  have lim : s.heap.NoLimit := e0.mod.nolimit.keeps fun b o e => (e0.bs b o e).1
  have hkind : ∀ y ∈ ps.zip us, scope.names.lookup y.1 = some .local ∨ (scope.names.lookup y.1 = some .cell ∧ ((cellsFrom (s.heap.objs.size + 1) scope.names []).lookup y.1).isSome = true) := fun ⟨n, v⟩ hy => by
    rcases S.par n (List.of_mem_zip hy).1 with q | q
    · exact .inl q
    · exact .inr ⟨q, PySem.W.cellsFrom_some _ _ _ (.inl q)⟩
  refine codeAny_call_function hr.depth (KX _ _ lk) rfl S.co S.gen rfl (PySem.W.codeRec_of KX hcd) (hb _ _ _ _ ?_)
  refine wpAny_newFunctionEnv_cells S.kind hkind fun env he s1 x => ?_
  subst he
  refine ⟨lim.keeps x.toInCall.keep, codeAny_func ?_⟩
  obtain ⟨t, ht, hq⟩ := hbody A outer s H vs Q E (hr.deeper _) hsp
  have I : Inv (cxOf CX P w K mg base N qual scope f cdv A outer s H E) [] (start N vs) H s1 := inv_start S hr.hd e0 hl r x
  refine wpAny_mono (ht [] s1 (start N vs) H _ I hq) (fun fl s' hs => ?_) fun e s' hs => hs
  have fin : ∀ {σ' : St} {H' : Hp} {v : V} {u : Value}, Inv (cxOf CX P w K mg base N qual scope f cdv A outer s H E) [] σ' H' s' → RelV v u → Q v H' → CE outer P w H s Q u s' :=
    fun {σ' H' v u} J rv q => ⟨v, H', J.os, J.bare, J.base, J.hok, rv, q⟩
  cases fl with
  | ret u =>
    obtain ⟨v, σ', H', J, rv, q⟩ := hs
    exact fin J rv q
  | next =>
    obtain ⟨σ', H', J, q⟩ := hs
    exact fin (v := V.non) (u := Value.none) J rfl q
  | brk =>
    obtain ⟨_, _, _, q⟩ := hs
    exact False.elim q
  | cont =>
    obtain ⟨_, _, _, q⟩ := hs
    exact False.elim q
end L2

namespace L2
open PySem PySem.Spec PyProof.Rows
section
variable {X : Cx} {x : Str} {p pos : Pos} {e : Expr} {es : List Expr} {t : TA} {id T : String} {r : List V → Hp → VK → Prop}

def tCB (r : List V → Hp → VK → Prop) (t : TA) : TE := fun σ H Q => t σ H fun vs H1 => r vs H1 Q
/-- f(e, ..), f a built-in function -/
theorem pe_callB (hc : CallR X (.builtin id) r) (hg : Gl X x) (hm : X.mg x = none) (hv : bootBuiltins x = some (.builtin id)) (ha : PA X (e :: es) t) (hn : x ≠ "__name__" := by decide) (hdb : (x == ("__debug__" : Str)) = false := by decide)
    (he : starEach (e :: es) X.env = (false, eval e X.env) :: starEach es X.env := by rfl) (hpl : (backTo pos (starEach es X.env)).any (·.1) = false := by rfl) : PE X (.Call (.Name x p) (e :: es) [] pos) (tCB r t) := by
  intro pins s σ H Q I h
  refine wpAny_Call_Name_kw (ld_blt I hg hm hv ?_ hn hdb)
  exact PyProof.Rows.callWith_builtin1 (thn (ha pos pins s σ H _ I h) fun us s1 ⟨vs, H1, I1, r1, q1⟩ => hc pins s1 σ H1 vs us Q I1 r1 q1) he hpl
end
end L2

namespace HT
open PySem PyProof.Rows

section
open PySem.SeqAt
open PySem.AutoSeq1 (wpAny_loadPart')
open PySem.MeetsSeq PySem.MeetsSeq2 PySem.MeetsSeq3

end

section
variable {prog : Program} {w : World} {A : Around} {E : Value → Shared → Prop} {s : Shared}

/-- a slice's bound as a place among n (d where it is left out) -/
def sIx (n d : Nat) : Option Int → Nat
  | none => d
  | some v => if v < 0 then (v + (n : Int)).toNat else min v.toNat n
theorem sIx_none (n d : Nat) : sIx n d none = d := rfl
theorem sIx_nat (n d k : Nat) : sIx n d (some (k : Int)) = min k n := by
  show (if (k : Int) < 0 then ((k : Int) + (n : Int)).toNat else min (k : Int).toNat n) = min k n
  rw [if_neg (by omega), Int.toNat_natCast]
end
end HT

namespace L2
open PySem PySem.Spec PyProof.Rows

abbrev TO := St → Hp → (Option Int → Hp → Prop) → Prop
/-- a slice's part (left out, or an int) -/
def PO (X : Cx) (e : Option Expr) (t : TO) : Prop :=
  ∀ (pins : List (Addr × Obj)) (s : Shared) (σ : St) (H : Hp) (Q : Option Int → Hp → Prop), Inv X pins σ H s → t σ H Q →
    wpAny (model X.prog X.w) X.A (evalPart e X.env) (fun u s' => ∃ o H', Inv X pins σ H' s' ∧ IsPart u o ∧ Q o H') X.xe s
def tNoPart : TO := fun _ H Q => Q none H
def tPart (t : TE) : TO := fun σ H Q => t σ H fun x H1 => ∃ i, x = .int i ∧ Q (some i) H1

section
variable {X : Cx} {e : Expr} {te : TE} {lo hi : Option Expr} {tl th : TO} {pos p2 : Pos}

theorem po_none : PO X none tNoPart := by
  intro pins s σ H Q I h
  rw [evalPart_none]
  exact wpAny_pure ⟨none, H, I, .none, h⟩
theorem po_some (h : PE X e te) : PO X (some e) (tPart te) := by
  intro pins s σ H Q I hw
  rw [evalPart_some]
  refine thn (h pins s σ H _ I hw) fun u s1 ⟨x, H1, I1, r1, q1⟩ => ?_
  obtain ⟨i, rfl, q⟩ := q1
  obtain ⟨t, rfl⟩ := r1
  exact ⟨some i, H1, I1, .int i t, q⟩

/-- what a slice of a value is, by values: the slice object stands at sl -/
def SlR (X : Cx) (r : V → Option Int → Option Int → Hp → VK → Prop) : Prop :=
  ∀ (pins : List (Addr × Obj)) (s : Shared) (σ : St) (H : Hp) (x : V) (v vl vu : Value) (lo hi : Option Int) (sl : Addr) (Q : VK), Inv X pins σ H s → RelV x v → s.heap.IsSliceOf sl vl vu .none → IsPart vl lo → IsPart vu hi → r x lo hi H Q →
    ∃ T id, typeLookup (.type T) "__getitem__" = pure (some (.builtin id)) ∧ s.TypeIs v T ∧ wpAny (model X.prog X.w) X.A (getItem v (.ref sl)) (EP X pins σ Q) X.xe s
def tSl (r : V → Option Int → Option Int → Hp → VK → Prop) (te : TE) (tl th : TO) : TE := fun σ H Q => te σ H fun x H1 => tl σ H1 fun l H2 => th σ H2 fun u H3 => r x l u H3 Q
/-- a[lo:hi], any a -/
theorem pe_slice {r : V → Option Int → Option Int → Hp → VK → Prop} (hr : SlR X r) (he : PE X e te) (hl : PO X lo tl) (hu : PO X hi th) : PE X (.Subscript e (.Slice lo hi none p2) pos) (tSl r te tl th) := by
  intro pins s σ H Q I h
  refine Subscript_ (thn (he pins s σ H _ I h) fun v s1 ⟨x, H1, I1, r1, q1⟩ => ?_)
  refine wpAny_Slice (thn (hl pins s1 σ H1 _ I1 q1) fun vl s2 ⟨l, H2, I2, pl, q2⟩ => thn (hu pins s2 σ H2 _ I2 q2) fun vu s3 ⟨u, H3, I3, pu, q3⟩ => ?_)
  rw [evalPart_none]
  refine wpAny_pure ?_
  have I4 : Inv X pins σ H3 { s3 with heap := s3.heap.push { cls := .type "slice", data := .fields #[vl, vu, .none] } } := I3.kept (t' := s3.toks) fun b ob q => Heap.get?_push_of_some _ q
  obtain ⟨T, id, hT, ht, hg⟩ := hr pins { s3 with heap := s3.heap.push { cls := .type "slice", data := .fields #[vl, vu, .none] } } σ H3 x v vl vu l u s3.heap.objs.size Q I4 r1 (Heap.IsSliceOf.new ..) pl pu q3
  show wpAny (model X.prog X.w) X.A (subscriptTail e (.Slice lo hi none p2) v (.ref s3.heap.objs.size)) (EP X pins σ Q) X.xe { s3 with heap := s3.heap.push { cls := .type "slice", data := .fields #[vl, vu, .none] } }
  exact tail_any (ops := [.ref s3.heap.objs.size, v]) ht hT hg (by with_unfolding_all rfl)

/-- the items of xs[lo:hi] -/
def cutV (xs : List V) (lo hi : Option Int) : List V := (xs.drop (HT.sIx xs.length 0 lo)).take (HT.sIx xs.length xs.length hi - HT.sIx xs.length 0 lo)
theorem cutV_length (xs : List V) (lo hi : Option Int) : (cutV xs lo hi).length ≤ xs.length := by
  unfold cutV
  rw [List.length_take, List.length_drop]
  omega
end
end L2

namespace L2
open PySem PySem.Spec PyProof.Rows

/-- the place that an index of any sign means -/
def ixN (n : Nat) (i : Int) : Option Nat := if 0 ≤ i then (if i < n then some i.toNat else none) else if -(n : Int) ≤ i then some (i + n).toNat else none
def atI {α : Type} (xs : List α) (i : Int) : Option α := (ixN xs.length i).bind fun j => xs[j]?
theorem ixN_seq {n : Nat} {i : Int} {j : Nat} (h : ixN n i = some j) : seqIndex? i n = some j ∧ j < n ∧ -(n : Int) ≤ i ∧ i < n := by
  unfold ixN at h
  by_cases h0 : 0 ≤ i
  · rw [if_pos h0] at h
    by_cases h1 : i < n
    · rw [if_pos h1] at h
      have e : i.toNat = j := Option.some.inj h
      exact ⟨by rw [seqIndex_of h0 h1, e], by omega, by omega, h1⟩
    · rw [if_neg h1] at h; cases h
  · rw [if_neg h0] at h
    by_cases h1 : -(n : Int) ≤ i
    · rw [if_pos h1] at h
      have e : (i + n).toNat = j := Option.some.inj h
      exact ⟨by rw [seqIndex_neg (by omega) h1, e], by omega, h1, by omega⟩
    · rw [if_neg h1] at h; cases h
theorem atI_get {α : Type} {xs : List α} {i : Int} {v : α} (h : atI xs i = some v) : ∃ j, seqIndex? i xs.length = some j ∧ xs[j]? = some v ∧ j < xs.length ∧ -(xs.length : Int) ≤ i ∧ i < xs.length := by
  unfold atI at h
  cases e : ixN xs.length i with
  | none => rw [e] at h; cases h
  | some j =>
    rw [e] at h
    obtain ⟨h1, h2, h3, h4⟩ := ixN_seq e
    exact ⟨j, h1, h, h2, h3, h4⟩
theorem atI_nat {α : Type} {xs : List α} {j : Nat} {v : α} (h : xs[j]? = some v) : atI xs (j : Int) = some v := by
  have hj : j < xs.length := (List.getElem?_eq_some_iff.mp h).1
  have e : ixN xs.length (j : Int) = some j := by
    unfold ixN
    rw [if_pos (by omega), if_pos (by omega)]; simp
  unfold atI; rw [e]; exact h
/-- what stands as an index of a plain subscript -/
def PlainIx (b : Expr) : Prop := ∀ o i, subscripted b false o i = operate [o, i] (getItem o i)
/-- a subscript by values -/
def IxR (X : Cx) (r : R2) : Prop :=
  ∀ (value slice : Expr) (pins : List (Addr × Obj)) (s : Shared) (σ : St) (H : Hp) (x y : V) (v u : Value) (Q : VK), Inv X pins σ H s → RelV x v → RelV y u → r x y H Q →
    subscripted slice false v u = operate [v, u] (getItem v u) → wpAny (model X.prog X.w) X.A (subscriptTail value slice v u) (EP X pins σ Q) X.xe s
/-- a call of a builtin's method by values: the receiver, the arguments -/
def MtR (X : Cx) (id : String) (r : V → List V → Hp → VK → Prop) : Prop :=
  ∀ (pins : List (Addr × Obj)) (s : Shared) (σ : St) (H : Hp) (x : V) (xs : List V) (v : Value) (us : List Value) (Q : VK), Inv X pins σ H s → RelV x v → Vals xs us → r x xs H Q →
    wpAny (model X.prog X.w) X.A (call (.builtin id) (v :: us)) (EP X pins σ Q) X.xe s
section
variable {X : Cx} {a b : Expr} {ta tb : TE} {pos : Pos}
/-- a[b] -/
theorem pe_ix {r : R2} (hr : IxR X r) (ha : PE X a ta) (hb : PE X b tb) (hs : PlainIx b) : PE X (.Subscript a b pos) (tOp r ta tb) := by
  intro pins s σ H Q I h
  exact Subscript_ (binT ha hb I h fun v u s2 x y H2 I2 rx ry q => hr a b pins s2 σ H2 x y v u Q I2 rx ry q (hs _ _))

def rIxL (K : PySem.W.Frag) : R2 := fun x y H Q => ∃ p xs i v, x = .ref p ∧ y = .int i ∧ SqL K H p xs ∧ atI xs i = some v ∧ Q v H
def rIxT (K : PySem.W.Frag) : R2 := fun x y H Q => ∃ p xs i v, x = .ref p ∧ y = .int i ∧ SqT K H p xs ∧ atI xs i = some v ∧ Q v H
theorem ix_list : IxR X (rIxL X.K) := by
  intro value slice pins s σ H x y v u Q I rx ry h hs
  obtain ⟨p, xs, i, z, rfl, rfl, hq, he, q⟩ := h
  cases rx
  obtain ⟨t, rfl⟩ := ry
  obtain ⟨its, r, pl, hz⟩ := I.list hq
  obtain ⟨j, h1, h2, h3, h4, h5⟩ := atI_get he
  obtain ⟨w, ew, rw'⟩ := r.get h2
  have hl := r.length
  have hn := line63
  have fin : EP X pins σ Q w s := ⟨z, H, I, rw', q⟩
  by_cases h0 : 0 ≤ i
  · have hj : i.toNat = j := by
      rw [seqIndex_of h0 h5] at h1
      exact Option.some.inj h1
    exact item_listR pl.isList h0 (by omega) (by rw [hj]; simpa using ew) fin hs
  · have hj : (i + (its.toArray.size : Int)).toNat = j := by
      rw [seqIndex_neg (by omega) h4] at h1
      rw [List.size_toArray, ← hl]
      exact Option.some.inj h1
    exact subscriptTail_builtinR (x := w) pl.isList.typeIs slot_list_getitem.lookup
      (wpAny_getItem_list_neg (Q := fun r s' => r = w ∧ EP X pins σ Q r s') pl.isList (by omega) (by rw [List.size_toArray] <;> omega) (by omega) (by rw [hj]; simpa using ew) ⟨rfl, fin⟩) hs
theorem ix_tup : IxR X (rIxT X.K) := by
  intro value slice pins s σ H x y v u Q I rx ry h hs
  obtain ⟨p, xs, i, z, rfl, rfl, hq, he, q⟩ := h
  cases rx
  obtain ⟨t, rfl⟩ := ry
  obtain ⟨its, r, pl, hz⟩ := I.tuple hq
  obtain ⟨j, h1, h2, h3, h4, h5⟩ := atI_get he
  obtain ⟨w, ew, rw'⟩ := r.get h2
  have hl := r.length
  have hn := line63
  have fin : EP X pins σ Q w s := ⟨z, H, I, rw', q⟩
  exact subscriptTail_builtinR (x := w) pl.typeIs slot_tuple_getitem.lookup
    (getItem_tuple (j := j) (Q := fun r s' => r = w ∧ EP X pins σ Q r s') pl (by omega) (by omega) (by rw [List.size_toArray, ← hl]; exact h1) (by simpa using ew) ⟨rfl, fin⟩) hs
/-- the list's object behind a store -/
theorem mapSeq_set (its : List Value) (n j : Nat) (u : Value) : Obj.mapSeq (·.setIfInBounds j u) { cls := .type "list", data := .seq its.toArray n } = { cls := .type "list", data := .seq (its.set j u).toArray n } := by
  simp [Obj.mapSeq]
theorem Inv.lst {pins : List (Addr × Obj)} {σ : St} {H : Hp} {s : Shared} {p : Addr} {xs : List V} (I : Inv X pins σ H s) (h : H p = some (.lst xs)) :
    ∃ (its : List Value) (n : Nat), Vals xs its ∧ s.heap.get? p = some { cls := .type "list", data := .seq its.toArray n } ∧ xs.length ≤ sizeLine := by
  obtain ⟨z, its, n, r, e⟩ := I.hok p _ h
  exact ⟨its, n, r, e, z⟩
/-- the list at p is written by an update of its object -/
theorem Inv.lstUpd {pins : List (Addr × Obj)} {σ : St} {H : Hp} {s : Shared} {p : Addr} {xs ys : List V} {its its' : List Value} {n n' : Nat} {f : Obj → Obj} (I : Inv X pins σ H s) (h : H p = some (.lst xs))
    (ho : s.heap.get? p = some { cls := .type "list", data := .seq its.toArray n }) (hf : f { cls := .type "list", data := .seq its.toArray n } = { cls := .type "list", data := .seq its'.toArray n' }) (r : Vals ys its') (hz : ys.length ≤ sizeLine) (t : Nat) :
    Inv X pins σ (upd H p (.lst ys)) { s with heap := s.heap.update p f, toks := t } := by
  have e : (s.heap.update p f).get? p = some { cls := .type "list", data := .seq its'.toArray n' } := by
    rw [Heap.get?_update_self f ho (by rw [hf] <;> rfl), hf]
  refine I.write (x := p) (e := p) (by rw [h]; trivial) (.inl rfl) (fun b u hb q => (Heap.get?_update_other _ _ (Ne.symm hb)).trans q) ⟨_, e⟩ ?_
  exact ⟨hz, its', n', r, e⟩
def rSetL : V → V → V → Hp → (Hp → Prop) → Prop := fun o i v H Q => ∃ p xs k j, o = .ref p ∧ i = .int k ∧ H p = some (.lst xs) ∧ ixN xs.length k = some j ∧ Q (upd H p (.lst (xs.set j v)))
theorem set_list : PSet X rSetL := by
  intro pins s σ H o i v ov iv u Q I ro ri rv h
  obtain ⟨p, xs, k, j, rfl, rfl, hp, hj, q⟩ := h
  cases ro
  obtain ⟨t, rfl⟩ := ri
  obtain ⟨its, n, r, ho, hz⟩ := I.lst hp
  obtain ⟨h1, h2, h3, h4⟩ := ixN_seq hj
  have hl := r.length
  have hn := line63
  have I' : Inv X pins σ (upd H p (.lst (xs.set j v))) { s with heap := s.heap.update p (Obj.mapSeq (·.setIfInBounds j u)) } :=
    I.lstUpd hp ho (mapSeq_set its n j u) (r.set rv j) (by rw [List.length_set]; exact hz) s.toks
  by_cases h0 : 0 ≤ k
  · have hk : k.toNat = j := by
      rw [seqIndex_of h0 h4] at h1
      exact Option.some.inj h1
    exact PySem.W.ki_setAt ho h0 (by omega) (by rw [List.size_toArray, ← hl]; exact h4) (by rw [hk]; exact ⟨_, I', q⟩)
  · have hk : (k + (its.toArray.size : Int)).toNat = j := by
      rw [seqIndex_neg (by omega) h3] at h1
      rw [List.size_toArray, ← hl]
      exact Option.some.inj h1
    exact PySem.W.ki_setBack ho (by omega) (by rw [List.size_toArray, ← hl]; exact h3) (by omega) (by rw [hk]; exact ⟨_, I', q⟩)

theorem slice_bounds (lo hi : Option Int) (n : Nat) : (sliceBounds lo hi none n).1 = ((HT.sIx n 0 lo : Nat) : Int) ∧ (sliceBounds lo hi none n).2.1 = ((HT.sIx n n hi : Nat) : Int) ∧ (sliceBounds lo hi none n).2.2 = 1 := by
  refine ⟨?_, ?_, rfl⟩
  · cases lo with
    | none => simp [sliceBounds, HT.sIx]
    | some i =>
      simp only [sliceBounds, HT.sIx, Option.getD_none, show (1 : Int) > 0 by decide, if_true]
      by_cases h : i < 0
      · simp only [h, if_true] <;> omega
      · simp only [h, if_false] <;> omega
  · cases hi with
    | none => simp [sliceBounds, HT.sIx]
    | some i =>
      simp only [sliceBounds, HT.sIx, Option.getD_none, show (1 : Int) > 0 by decide, if_true]
      by_cases h : i < 0
      · simp only [h, if_true] <;> omega
      · simp only [h, if_false] <;> omega
theorem slicePick_cut (its : List Value) (lo hi : Option Int) : slicePick its.toArray lo hi none = ((its.drop (HT.sIx its.length 0 lo)).take (HT.sIx its.length its.length hi - HT.sIx its.length 0 lo)).toArray := by
  obtain ⟨h1, h2, h3⟩ := slice_bounds lo hi its.toArray.size
  unfold slicePick
  rw [h1, h2, h3]
  simp only [sliceRange_one, pick_run, List.size_toArray] <;> rfl
/-- xs[lo:hi] of a list: a new list -/
def rSlL (K : PySem.W.Frag) : V → Option Int → Option Int → Hp → VK → Prop := fun x lo hi H Q => ∃ a xs, x = .ref a ∧ SqL K H a xs ∧ ∀ p, H p = none → Q (.ref p) (upd H p (.lst (cutV xs lo hi)))
theorem sl_list : SlR X (rSlL X.K) := by
  intro pins s σ H x v vl vu lo hi sl Q I rx hs pl pu h
  obtain ⟨a, xs, rfl, hx, q⟩ := h
  cases rx
  obtain ⟨its, r, ht, hz⟩ := I.list hx
  have hlen := r.length
  refine ⟨"list", _, slot_list_getitem.lookup, ht.isList.typeIs, ?_⟩
  refine wpAny_getItem_list_slice ht.isList hs pl pu .none (by simp) ?_ (by rw [List.size_toArray] <;> omega)
  rw [slicePick_cut, ← hlen]
  refine ⟨.ref s.heap.objs.size, _, I.laid (t' := s.toks) (o := .lst (cutV xs lo hi)) (fun b ob q => Heap.get?_push_of_some _ q) (Nat.le_refl _) ?_, rfl, q _ (I.hok.fresh (Nat.le_refl _))⟩
  exact ⟨Nat.le_trans (cutV_length xs lo hi) hz, _, 0, (r.drop (HT.sIx xs.length 0 lo)).take (HT.sIx xs.length xs.length hi - HT.sIx xs.length 0 lo), Heap.get?_push_size _ rfl⟩

def flatV : V → Bool
  | .non => true
  | .bl _ => true
  | .int _ => true
  | .str _ => true
  | _ => false
/-- == of flat values -/
def eqV : V → V → Bool
  | .non, .non => true
  | .bl a, .bl b => a == b
  | .bl a, .int b => (if a then 1 else 0) == b
  | .int a, .bl b => a == (if b then 1 else 0)
  | .int a, .int b => a == b
  | .str a, .str b => a == b
  | _, _ => false
theorem eqAt_V {A : Around} {s : Shared} {y x : V} {u v : Value} (ry : RelV y u) (rx : RelV x v) (fy : flatV y = true) (fx : flatV x = true) : SeqAt.EqAt A s u v (eqV y x) := by
  cases y with
  | non =>
    cases ry
    cases x with
    | non => cases rx; exact SeqAt.EqAt.same _
    | bl b => cases rx; exact SeqAt.EqAt.none_bool b
    | int b => obtain ⟨t, rfl⟩ := rx; exact SeqAt.EqAt.none_int b t
    | str b => obtain ⟨t, rfl⟩ := rx; exact SeqAt.EqAt.none_str b t
    | _ => exact absurd (show false = true from fx) Bool.false_ne_true
  | bl a =>
    cases ry
    cases x with
    | non => cases rx; exact SeqAt.EqAt.bool_none a
    | bl b => cases rx; exact SeqAt.EqAt.bool_bool a b
    | int b => obtain ⟨t, rfl⟩ := rx; exact SeqAt.EqAt.bool_int a b t
    | str b => obtain ⟨t, rfl⟩ := rx; exact SeqAt.EqAt.bool_str a b t
    | _ => exact absurd (show false = true from fx) Bool.false_ne_true
  | int a =>
    obtain ⟨t', rfl⟩ := ry
    cases x with
    | non => cases rx; exact SeqAt.EqAt.int_none a t'
    | bl b => cases rx; exact SeqAt.EqAt.int_bool a t' b
    | int b => obtain ⟨t, rfl⟩ := rx; exact SeqAt.EqAt.int_int a t' b t
    | str b => obtain ⟨t, rfl⟩ := rx; exact SeqAt.EqAt.int_str a t' b t
    | _ => exact absurd (show false = true from fx) Bool.false_ne_true
  | str a =>
    obtain ⟨t', rfl⟩ := ry
    cases x with
    | non => cases rx; exact SeqAt.EqAt.str_none a t'
    | bl b => cases rx; exact SeqAt.EqAt.str_bool a t' b
    | int b => obtain ⟨t, rfl⟩ := rx; exact SeqAt.EqAt.str_int a t' b t
    | str b => obtain ⟨t, rfl⟩ := rx; exact SeqAt.EqAt.str_str a t' b t
    | _ => exact absurd (show false = true from fx) Bool.false_ne_true
  | _ => exact absurd (show false = true from fy) Bool.false_ne_true
/-- the items' answers, read off the values (a value's own answer does not lean on its token) -/
def eqU (x : V) (u : Value) : Bool := match u with
  | .none => eqV .non x
  | .bool b => eqV (.bl b) x
  | .int i _ => eqV (.int i) x
  | .str z _ => eqV (.str z) x
  | _ => false
theorem eqU_of {x y : V} {u : Value} (r : RelV y u) (f : flatV y = true) : eqU x u = eqV y x := by
  cases y with
  | non => cases r; rfl
  | bl b => cases r; rfl
  | int i => obtain ⟨t, rfl⟩ := r; rfl
  | str z => obtain ⟨t, rfl⟩ := r; rfl
  | _ => exact absurd (show false = true from f) Bool.false_ne_true
theorem any_eqU {x : V} : ∀ {xs : List V} {us : List Value}, Vals xs us → xs.all flatV = true → us.any (eqU x) = xs.any fun y => eqV y x
  | _, _, .nil, _ => rfl
  | y :: xs, u :: us, .cons r t, f => by
    rw [List.all_cons, Bool.and_eq_true] at f
    rw [List.any_cons, List.any_cons, eqU_of r f.1, any_eqU t f.2]
theorem mem_eqAt {A : Around} {s : Shared} {x : V} {v : Value} (rx : RelV x v) (fx : flatV x = true) : ∀ {xs : List V} {us : List Value}, Vals xs us → xs.all flatV = true → ∀ u ∈ us, SeqAt.EqAt A s u v (eqU x u)
  | _, _, .nil, _ => fun u hu => by cases hu
  | y :: xs, u :: us, .cons r t, f => fun u' hu => by
    rw [List.all_cons, Bool.and_eq_true] at f
    rcases List.mem_cons.mp hu with rfl | hu
    · rw [eqU_of r f.1]; exact eqAt_V r rx f.1 fx
    · exact mem_eqAt rx fx t f.2 u' hu
def inV (x : V) (xs : List V) : Bool := xs.any fun y => eqV y x
/-- x in a list or tuple of flat items -/
def rIn (K : PySem.W.Frag) (neg : Bool) : R2 := fun x y H Q => ∃ p xs, y = .ref p ∧ (SqL K H p xs ∨ SqT K H p xs) ∧ flatV x = true ∧ xs.all flatV = true ∧ Q (.bl (if neg then !inV x xs else inV x xs)) H
theorem op_in_seq : OpR X (compareOp .In) (rIn X.K false) := by
  intro pins s σ H x y v u Q I rx ry h
  obtain ⟨p, xs, rfl, hq, fx, fs, q⟩ := h
  cases ry
  rcases hq with hq | hq
  · obtain ⟨its, r, pl, hz⟩ := I.list hq
    refine SeqAt.in_listAt (eqU x) pl.isList (fun w hw => mem_eqAt rx fx r fs w (by simpa using hw)) ⟨.bl _, H, I, rfl, ?_⟩
    rw [show its.toArray.any (eqU x) = its.any (eqU x) by simp, any_eqU r fs]
    exact q
  · obtain ⟨its, r, pl, hz⟩ := I.tuple hq
    refine SeqAt.in_tupleAt (eqU x) pl (fun w hw => mem_eqAt rx fx r fs w (by simpa using hw)) ⟨.bl _, H, I, rfl, ?_⟩
    rw [show its.toArray.any (eqU x) = its.any (eqU x) by simp, any_eqU r fs]
    exact q
theorem op_notIn_seq : OpR X (compareOp .NotIn) (rIn X.K true) := by
  intro pins s σ H x y v u Q I rx ry h
  obtain ⟨p, xs, rfl, hq, fx, fs, q⟩ := h
  cases ry
  rcases hq with hq | hq
  · obtain ⟨its, r, pl, hz⟩ := I.list hq
    refine SeqAt.notIn_listAt (eqU x) pl.isList (fun w hw => mem_eqAt rx fx r fs w (by simpa using hw)) ⟨.bl _, H, I, rfl, ?_⟩
    rw [show its.toArray.any (eqU x) = its.any (eqU x) by simp, any_eqU r fs]
    exact q
  · obtain ⟨its, r, pl, hz⟩ := I.tuple hq
    refine SeqAt.notIn_tupleAt (eqU x) pl (fun w hw => mem_eqAt rx fx r fs w (by simpa using hw)) ⟨.bl _, H, I, rfl, ?_⟩
    rw [show its.toArray.any (eqU x) = its.any (eqU x) by simp, any_eqU r fs]
    exact q
theorem call_len_seq : CallR X (.builtin "len") (fun xs H Q => ∃ p ys, xs = [.ref p] ∧ (SqL X.K H p ys ∨ SqT X.K H p ys) ∧ Q (.int ys.length) H) := by
  intro pins s σ H xs us Q I r h
  obtain ⟨p, ys, rfl, hq, q⟩ := h
  obtain ⟨u, rfl, rx⟩ := vals1 r
  cases rx
  have hn := line63
  rcases hq with hq | hq
  · obtain ⟨its, r', pl, hz⟩ := I.list hq
    have hlen := r'.length
    exact Calls.call_len_list pl.isList (by simp only [List.size_toArray] <;> omega) ⟨.int ys.length, H, I.tok _, ⟨s.toks + 1, by rw [List.size_toArray, hlen]⟩, q⟩
  · obtain ⟨its, r', pl, hz⟩ := I.tuple hq
    have hlen := r'.length
    exact len_tuple pl (by simp only [List.size_toArray] <;> omega) ⟨.int ys.length, H, I.tok _, ⟨s.toks + 1, by rw [List.size_toArray, hlen]⟩, q⟩
/-- the value is of that builtin type -/
def tyV (K : PySem.W.Frag) (T : String) (x : V) (H : Hp) : Prop := match x with
  | .str _ => T = "str"
  | .int _ => T = "int"
  | .ref p => (T = "list" ∧ ∃ xs, SqL K H p xs) ∨ (T = "tuple" ∧ ∃ o, K.lookup p = some o ∧ o.cls = .type "tuple" ∧ o.dict = none) ∨
      (T = "dict" ∧ ((∃ kvs, H p = some (.dK kvs)) ∨ ∃ kvs, H p = some (.dT kvs))) ∨ (T = "set" ∧ ∃ S n, H p = some (.set S n))
  | _ => False
theorem tyV_is {pins : List (Addr × Obj)} {σ : St} {H : Hp} {s : Shared} {T : String} {x : V} {v : Value} (I : Inv X pins σ H s) (r : RelV x v) (ty : tyV X.K T x H) :
    s.TypeIs v T ∧ ∀ a, v = .ref a → ∃ ob, s.heap.get? a = some ob ∧ ob.dict = none := by
  cases x with
  | str z =>
    obtain ⟨t, rfl⟩ := r
    cases (show T = "str" from ty)
    exact ⟨typeIs_str s z t, fun _ e => nomatch e⟩
  | int i =>
    obtain ⟨t, rfl⟩ := r
    cases (show T = "int" from ty)
    exact ⟨typeIs_int s i t, fun _ e => nomatch e⟩
  | ref p =>
    cases r
    rcases ty with ⟨rfl, xs, hq⟩ | ⟨rfl, o, hk, hc, hd⟩ | ⟨rfl, hk⟩ | ⟨rfl, S, n, hk⟩
    · obtain ⟨its, _, pl, _⟩ := I.list hq
      refine ⟨pl.isList.typeIs, fun a e => ?_⟩
      cases e
      obtain ⟨o, n, e, c, hd, _⟩ := pl
      exact ⟨o, e, hd⟩
    · refine ⟨⟨o, I.kIn p o hk, hc⟩, fun a e => ?_⟩
      cases e
      exact ⟨o, I.kIn _ o hk, hd⟩
    · have z : ∃ o, s.heap.get? p = some o ∧ o.ExactDict := by
        rcases hk with ⟨kvs, hk⟩ | ⟨kvs, hk⟩
        · obtain ⟨_, _, _, _, o, _, _, e, ex, _⟩ := I.hok p _ hk
          exact ⟨o, e, ex⟩
        · obtain ⟨_, _, _, _, o, _, _, e, ex, _⟩ := I.hok p _ hk
          exact ⟨o, e, ex⟩
      obtain ⟨o, e, ex⟩ := z
      refine ⟨⟨o, e, ex.1⟩, fun a e2 => ?_⟩
      cases e2
      exact ⟨o, e, ex.2.1⟩
    · obtain ⟨o, _, _, _, e, ex, _⟩ := I.hok p _ hk
      refine ⟨⟨o, e, ex.1⟩, fun a e2 => ?_⟩
      cases e2
      exact ⟨o, e, ex.2.1⟩
  | _ => exact False.elim ty
def tBM (K : PySem.W.Frag) (T : String) (r : V → List V → Hp → VK → Prop) (to : TE) (t : TA) : TE := fun σ H Q => to σ H fun x H1 => tyV K T x H1 ∧ t σ H1 fun xs H2 => r x xs H2 Q
variable {o e : Expr} {es : List Expr} {to : TE} {t : TA} {name : Str} {apos cpos : Pos} {T id : String} {r : V → List V → Hp → VK → Prop}
theorem pe_bm (pa : PlainAttrs T) (slot : Slot T name id) (hty : typeOf (.builtin id) = pure (.type "method_descriptor")) (hm : MtR X id r) (ho : PE X o to) (ha : PA X (e :: es) t)
    (hbase : attributeBase o name X.env (eval o X.env) = eval o X.env := by rfl)
    (hfew : ((backTo cpos (starEach (e :: es) X.env)).all (fun x => !x.1) && (backToKw cpos (keywordEach [] X.env)).all (fun x => x.1.isSome)
      && decide ((e :: es).length + ([] : List Keyword).length + (if ([] : List Keyword).isEmpty then 0 else 1) < 30)) = true := by rfl)
    (hline : (apos.endLine == cpos.line) = true := by rfl) (hs : starEach (e :: es) X.env = (false, eval e X.env) :: starEach es X.env := by rfl) (hplain : (backTo cpos (starEach es X.env)).any (·.1) = false := by rfl) :
    PE X (.Call (.Attribute o name apos) (e :: es) [] cpos) (tBM X.K T r to t) := by
  intro pins s σ H Q I h
  refine wpAny_Call_method_late hbase hfew hline rfl (thn (ho pins s σ H _ I h) fun v s1 ⟨x, H1, I1, r1, ty, q1⟩ => ?_)
  obtain ⟨h1, h2⟩ := tyV_is I1 r1 ty
  refine ⟨T, id, pa, slot, hty, h1, h2, ?_⟩
  have hA := ha cpos pins s1 σ H1 _ I1 q1
  rw [hs] at hA ⊢
  refine Calls.callWith_builtin (by show (false || (backTo cpos (starEach es X.env)).any (·.1)) = false; rw [hplain] <;> rfl) (Calls.evalArgs_plain ?_)
  exact thn hA fun us s2 ⟨vs, H2, I2, r2, q2⟩ => hm pins s2 σ H2 x vs v us Q I2 r1 r2 q2
end
end L2

namespace L2
open PySem PySem.Spec PyProof.Rows

def MtM (X : Cx) (id : String) (r : V → List V → Hp → VK → Prop) : Prop :=
  ∀ (pins : List (Addr × Obj)) (s : Shared) (σ : St) (H : Hp) (x : V) (xs : List V) (v : Value) (us : List Value) (Q : VK), Inv X pins σ H s → RelV x v → Vals xs us → r x xs H Q →
    wpAny (model X.prog X.w) X.A (call (.builtin id) (v :: us)) (EP X pins σ Q) X.xe s

theorem Vals.one : ∀ {x : V} {us : List Value}, Vals [x] us → ∃ u, us = [u] ∧ RelV x u
  | _, _, .cons r .nil => ⟨_, rfl, r⟩
section
variable {X : Cx} {pins : List (Addr × Obj)} {σ : St} {H : Hp} {s : Shared} {l b : Addr} {xs ys zs : List V}

theorem Inv.lset {its its' : List Value} {n : Nat} {f : Array Value → Array Value} {t' : Nat} (I : Inv X pins σ H s) (hH : H l = some (.lst xs))
    (e : s.heap.get? l = some { cls := .type "list", data := .seq its.toArray n }) (hf : f its.toArray = its'.toArray) (hv : Vals ys its') (hz : ys.length ≤ sizeLine) :
    Inv X pins σ (upd H l (.lst ys)) { s with heap := s.heap.update l (Obj.mapSeq f), toks := t' } := by
  have q := PySem.IsL.update e f
  rw [hf] at q
  refine I.write (x := l) (e := l) (by rw [hH]; exact trivial) (.inl rfl) (fun b' u hb hu => (Heap.get?_update_other s.heap (Obj.mapSeq f) (Ne.symm hb)).trans hu) ⟨_, q⟩ ?_
  exact ⟨hz, its', _, hv, q⟩
theorem Inv.lnew {its : List Value} {t' : Nat} (I : Inv X pins σ H s) (hv : Vals ys its) (hz : ys.length ≤ sizeLine) :
    Inv X pins σ (upd H s.heap.objs.size (.lst ys)) { s with heap := s.heap.push { cls := .type "list", data := .seq its.toArray }, toks := t' } :=
  I.laid (fun _ _ q => Heap.get?_push_of_some _ q) (Nat.le_refl _) ⟨hz, its, 0, hv, Heap.get?_push_size _ rfl⟩
theorem Inv.fresh (I : Inv X pins σ H s) : H s.heap.objs.size = none := I.hok.fresh (Nat.le_refl _)
theorem Inv.lstM (I : Inv X pins σ H s) (hH : H l = some (.lst xs)) : xs.length ≤ sizeLine ∧ ∃ (its : List Value) (n : Nat), Vals xs its ∧ xs.length = its.length ∧ s.heap.get? l = some { cls := .type "list", data := .seq its.toArray n } := by
  obtain ⟨z, its, n, r, e⟩ := I.hok l _ hH
  exact ⟨z, its, n, r, r.length, e⟩

theorem notLongL {n : Nat} (h : n ≤ sizeLine) : Builtin.List.listTooLong n = false := by
  unfold Builtin.List.listTooLong
  exact decide_eq_false (by omega)
end

section
variable {X : Cx}

def rAppend : V → List V → Hp → VK → Prop := fun x vs H Q => ∃ l xs y, x = .ref l ∧ vs = [y] ∧ H l = some (.lst xs) ∧ xs.length < sizeLine ∧ Q .non (upd H l (.lst (xs ++ [y])))
theorem mt_append : MtM X "list.append" rAppend := by
  intro pins s σ H x vs v us Q I rx rv h
  obtain ⟨l, xs, y, rfl, rfl, hH, hz, q⟩ := h
  cases rx
  obtain ⟨u, rfl, ru⟩ := rv.one
  obtain ⟨z, its, n, r, hl, e⟩ := I.lstM hH
  refine call_meets F.slot_list_append ⟨_, e, rfl⟩ F.entry_list_append (F.args_list_append_2 _ _) (PySem.list_append l its.toArray n u (by rw [List.size_toArray]; omega)) ⟨e, ?_⟩
  refine ⟨.non, _, I.lset (its' := its ++ [u]) hH e (by simp) (r.append (.cons ru .nil)) ?_, rfl, q⟩
  rw [List.length_append, List.length_singleton]
  omega

def rExtend : V → List V → Hp → VK → Prop := fun x vs H Q => ∃ l b xs zs, x = .ref l ∧ vs = [.ref b] ∧ H l = some (.lst xs) ∧ H b = some (.lst zs) ∧ xs.length + zs.length ≤ sizeLine ∧ Q .non (upd H l (.lst (xs ++ zs)))
theorem mt_extend : MtM X "list.extend" rExtend := by
  intro pins s σ H x vs v us Q I rx rv h
  obtain ⟨l, b, xs, zs, rfl, rfl, hH, hB, hz, q⟩ := h
  cases rx
  obtain ⟨u, rfl, ru⟩ := rv.one
  cases ru
  obtain ⟨z, its, n, r, hl, e⟩ := I.lstM hH
  obtain ⟨z2, its2, n2, r2, hl2, e2⟩ := I.lstM hB
  have hsz : its.toArray.size + its2.toArray.size ≤ sizeLine := by rw [List.size_toArray, List.size_toArray]; omega
  have hlong : ¬ (!its.toArray.isEmpty && Builtin.List.listTooLong (its.toArray.size + its2.toArray.size)) = true := by
    rw [notLongL hsz, Bool.and_false]
    exact Bool.false_ne_true
  refine call_meets F.slot_list_extend ⟨_, e, rfl⟩ F.entry_list_extend (F.args_list_extend_2 _ _)
    (AutoSeq1.list_extend_list_list_0 l its.toArray n b its2.toArray n2 hlong (by rw [List.size_toArray]; omega) (by omega)) ⟨e, e2, ?_⟩
  refine ⟨.non, _, I.lset (its' := its ++ its2) hH e (by simp) (r.append r2) ?_, rfl, q⟩
  rw [List.length_append]
  omega

def rCat : R2 := fun x y H Q => ∃ l b xs zs, x = .ref l ∧ y = .ref b ∧ H l = some (.lst xs) ∧ H b = some (.lst zs) ∧ xs.length + zs.length ≤ sizeLine ∧ ∀ p, H p = none → Q (.ref p) (upd H p (.lst (xs ++ zs)))
theorem op_cat : OpR X (binaryOp .Add) rCat := by
  intro pins s σ H x y v u Q I rx ry h
  obtain ⟨l, b, xs, zs, rfl, rfl, hH, hB, hz, q⟩ := h
  cases rx
  cases ry
  obtain ⟨z, its, n, r, hl, e⟩ := I.lstM hH
  obtain ⟨z2, its2, n2, r2, hl2, e2⟩ := I.lstM hB
  refine PySem.P.add_list e e2 ?_ (by rw [List.size_toArray, List.size_toArray]; omega)
  have ea : its.toArray ++ its2.toArray = (its ++ its2).toArray := by simp
  rw [ea]
  exact ⟨.ref _, _, I.lnew (t' := s.toks) (r.append r2) (by rw [List.length_append]; omega), rfl, q _ I.fresh⟩
end

section
variable {prog : Program} {w : World} {A : Around} {E : Value → Shared → Prop} {s : Shared}
end

section
variable {X : Cx}
end
end L2

namespace L2
open PySem PySem.Spec PyProof.Rows

theorem Vals.ints : ∀ {ns : List Int} {us : List Value}, Vals (ns.map V.int) us → IntsAre us ns
  | [], us, h => by
    rw [List.map_nil] at h
    cases h
    exact IntsAre.nil
  | n :: ns, us, h => by
    rw [List.map_cons] at h
    cases h with
    | cons r t =>
      obtain ⟨k, rfl⟩ := r
      exact IntsAre.cons n k (Vals.ints t)
theorem Vals.ref1 {a : Addr} {us : List Value} (r : Vals [V.ref a] us) : us = [Value.ref a] := by
  cases r with
  | cons r t =>
    cases t
    cases r
    rfl
section
variable {prog : Program} {w : World} {A : Around} {E : Value → Shared → Prop} {s : Shared} {l : Addr} {its : List Value} {ns : List Int} {Q : Value → Shared → Prop}
theorem sum_raw (hh : A.handled = none) (hl : s.heap.IsList l its.toArray) (hi : IntsAre its ns)
    (h : ∀ h' tk t', (∀ b o, s.heap.get? b = some o → h'.get? b = some o) → Q (.int ns.sum t') { s with heap := h', toks := tk }) : wpAny (model prog w) A (call (.builtin "sum") [.ref l]) Q E s := by
  obtain ⟨xs, e⟩ := hi.allInts.items
  have hn : numsOf (intItems xs).toList = ns := by rw [← e]; exact hi.numsOf
  rw [nums_intItems] at hn
  rw [e] at hl
  refine PySem.sum_intListG hh hl fun h' tk t' hk => ?_
  have := h h' tk t' hk
  rw [preSum_eq, List.take_of_length_le (by simp), hn]; exact this
end

section
variable {X : Cx}
/-- sum(xs) of a list of ints -/
def rSum (K : PySem.W.Frag) : List V → Hp → VK → Prop := fun vs H Q => ∃ (a : Addr) (ns : List Int), vs = [V.ref a] ∧ SqL K H a (ns.map V.int) ∧ Q (.int ns.sum) H
theorem cr_sum (hc : X.calm = true) : CallR X (.builtin "sum") (rSum X.K) := by
  intro pins s σ H vs us Q I r h
  obtain ⟨a, ns, rfl, hs, q⟩ := h
  obtain ⟨its, rv, hl, _⟩ := I.list hs
  rw [Vals.ref1 r]
  exact sum_raw (I.ok.hd hc) hl.isList rv.ints fun h' tk t' hk => ⟨.int _, H, I.kept hk, ⟨_, rfl⟩, q⟩
end

section
variable {X : Cx}
end

section
variable {X : Cx}
end

section
variable {X : Cx}
end

mutual
inductive Dp (K : PySem.W.Frag) (H : Hp) : V → PyData → Prop
  | non : Dp K H .non .none
  | bl (b : Bool) : Dp K H (.bl b) (.bool b)
  | int (i : Int) : Dp K H (.int i) (.int i)
  | str (x : Str) : Dp K H (.str x) (.str x)
  | lst {a : Addr} {xs : List V} {ds : List PyData} : SqL K H a xs → DpAll K H xs ds → Dp K H (.ref a) (.list ds)
  | tup {a : Addr} {xs : List V} {ds : List PyData} : SqT K H a xs → DpAll K H xs ds → Dp K H (.ref a) (.tuple ds)
inductive DpAll (K : PySem.W.Frag) (H : Hp) : List V → List PyData → Prop
  | nil : DpAll K H [] []
  | cons {v : V} {vs : List V} {d : PyData} {ds : List PyData} : Dp K H v d → DpAll K H vs ds → DpAll K H (v :: vs) (d :: ds)
end
section
variable {X : Cx} {pins : List (Addr × Obj)} {σ : St} {H : Hp} {s : Shared}
mutual
theorem Dp.reads (I : Inv X pins σ H s) : ∀ (d : PyData) (v : V) (u : Value), Dp X.K H v d → RelV v u → ∃ as, Reads s.heap u d as
  | .none, _, _, h, r => by
    cases h
    cases r
    exact ⟨_, Reads.none⟩
  | .bool b, _, _, h, r => by
    cases h
    cases r
    exact ⟨_, Reads.bool b⟩
  | .int i, _, _, h, r => by
    cases h
    obtain ⟨t, rfl⟩ := r
    exact ⟨_, Reads.int i t⟩
  | .str x, _, _, h, r => by
    cases h
    obtain ⟨t, rfl⟩ := r
    exact ⟨_, Reads.str x t⟩
  | .list ds, _, _, h, r => by
    cases h with
    | lst hs ha =>
      cases r
      obtain ⟨its, rv, ⟨o, n, ho, hc, _, hd⟩, _⟩ := I.list hs
      obtain ⟨as, hr⟩ := Dp.readsAll I ds _ its ha rv
      exact ⟨_, Reads.list ho hc hd hr⟩
  | .tuple ds, _, _, h, r => by
    cases h with
    | tup hs ha =>
      cases r
      obtain ⟨its, rv, ⟨o, ho, hc, n, hd⟩, _⟩ := I.tuple hs
      obtain ⟨as, hr⟩ := Dp.readsAll I ds _ its ha rv
      exact ⟨_, Reads.tuple ho hc hd hr⟩
  | .dict _, _, _, h, _ => by cases h
theorem Dp.readsAll (I : Inv X pins σ H s) : ∀ (ds : List PyData) (vs : List V) (us : List Value), DpAll X.K H vs ds → Vals vs us → ∃ as, ReadsAll s.heap us ds as
  | [], _, _, h, r => by
    cases h
    cases r
    exact ⟨_, ReadsAll.nil⟩
  | d :: ds, _, _, h, r => by
    cases h with
    | cons h1 h2 =>
      cases r with
      | cons r1 r2 =>
        obtain ⟨as, q1⟩ := Dp.reads I d _ _ h1 r1
        obtain ⟨bs, q2⟩ := Dp.readsAll I ds _ _ h2 r2
        exact ⟨_, ReadsAll.cons q1 q2⟩
end
end
section
variable {X : Cx}
end
end L2

namespace L2
open PySem PySem.Spec PyProof.Rows
abbrev CellAt (h : Heap) (c : Addr) (v : Option Value) : Prop := h.IsCell c v
def relS (scope sc : Scope) : Scope :=
  { scope with names := scope.names.map fun (n, k) => if (k == .free && sc.kind == .function && sc.names.lookup n == some .cell) then (n, .cell) else (n, k) }

def cloFrom (cells : List (Str × Addr)) : List (Str × NameKind) → List (Str × Addr) → List (Str × Addr)
  | [], acc => acc
  | (n, k) :: r, acc => if k == .free then cloFrom cells r ((n, (cells.lookup n).getD 0) :: acc) else cloFrom cells r acc

theorem closure_loop (env : Env) (f : Str × NameKind → List (Str × Addr) → Sem (ForInStep (List (Str × Addr))))
    (hf : ∀ n k c, f (n, k) c = if k == .free then (do let a ← cellOf env n; pure (.yield ((n, a) :: c))) else pure (.yield c)) :
    ∀ (names : List (Str × NameKind)) (acc : List (Str × Addr)), (∀ y ∈ names, y.2 = .free → ∃ c, env.cells.lookup y.1 = some c) → forIn names acc f = pure (cloFrom env.cells names acc)
  | [], acc, _ => by rw [List.forIn_nil]; rfl
  | (n, k) :: r, acc, h => by
    rw [List.forIn_cons, hf]
    have ih := fun acc => closure_loop env f hf r acc fun y hy => h y (List.mem_cons_of_mem _ hy)
    unfold cloFrom
    by_cases hk : (k == NameKind.free) = true
    · rw [if_pos hk, if_pos hk]
      obtain ⟨c, hc⟩ := h (n, k) List.mem_cons_self (by simpa using hk)
      have e : cellOf env n = pure c := by unfold cellOf; rw [hc]
      rw [e]
      have e2 : (env.cells.lookup n).getD 0 = c := by rw [hc]; rfl
      rw [e2]
      exact ih _
    · rw [if_neg hk, if_neg hk]
      exact ih _
theorem closure_ok {scope : Scope} {env : Env} (h : ∀ y ∈ scope.names, y.2 = .free → ∃ c, env.cells.lookup y.1 = some c) : closureFor scope env = pure (cloFrom env.cells scope.names []) := by
  simp only [closureFor]
  rw [closure_loop env _ (fun n k c => rfl) scope.names [] h]
  rfl

theorem mem_lookup {α : Type} : ∀ {l : List (Str × α)} {n : Str} {c : α}, (n, c) ∈ l → ∃ c', l.lookup n = some c'
  | (k, v) :: r, n, c, h => by
    rw [List.lookup_cons]
    cases hb : n == k with
    | true => exact ⟨_, rfl⟩
    | false =>
      rcases List.mem_cons.mp h with e | h
      · cases e; simp at hb
      · exact mem_lookup h

theorem cloFrom_mem {cells : List (Str × Addr)} : ∀ {names : List (Str × NameKind)} {acc : List (Str × Addr)} {n : Str} {c : Addr}, (n, c) ∈ cloFrom cells names acc → (n, c) ∈ acc ∨ ((n, .free) ∈ names ∧ c = (cells.lookup n).getD 0)
  | [], _, _, _, h => .inl h
  | (m, k) :: r, acc, n, c, h => by
    unfold cloFrom at h
    split at h
    · rename_i hk
      have hk : k = .free := by simpa using hk
      rcases cloFrom_mem h with h | ⟨h1, h2⟩
      · rcases List.mem_cons.mp h with e | h
        · cases e; exact .inr ⟨hk ▸ List.mem_cons_self, rfl⟩
        · exact .inl h
      · exact .inr ⟨List.mem_cons_of_mem _ h1, h2⟩
    · rcases cloFrom_mem h with h | ⟨h1, h2⟩
      · exact .inl h
      · exact .inr ⟨List.mem_cons_of_mem _ h1, h2⟩
theorem cloFrom_acc {cells : List (Str × Addr)} : ∀ {names : List (Str × NameKind)} {acc : List (Str × Addr)} {p : Str × Addr}, p ∈ acc → p ∈ cloFrom cells names acc
  | [], _, _, h => h
  | (m, k) :: r, acc, p, h => by
    unfold cloFrom
    split
    · exact cloFrom_acc (List.mem_cons_of_mem _ h)
    · exact cloFrom_acc h
theorem cloFrom_has {cells : List (Str × Addr)} : ∀ {names : List (Str × NameKind)} {acc : List (Str × Addr)} {n : Str}, (n, .free) ∈ names → (n, (cells.lookup n).getD 0) ∈ cloFrom cells names acc
  | (m, k) :: r, acc, n, h => by
    unfold cloFrom
    rcases List.mem_cons.mp h with e | h
    · cases e
      exact cloFrom_acc List.mem_cons_self
    · split
      · exact cloFrom_has h
      · exact cloFrom_has h

theorem cells_mem : ∀ {names : List (Str × NameKind)} {h : Heap} {acc : List (Str × Addr)} {x : Str} {c : Addr}, (x, c) ∈ cellsFrom h.objs.size names acc →
    (x, c) ∈ acc ∨ ((x, .cell) ∈ names ∧ h.objs.size ≤ c ∧ CellAt (pushCells h names) c none)
  | [], _, _, _, _, h => .inl h
  | (n, k) :: r, h, acc, x, c, hm => by
    unfold cellsFrom at hm
    unfold pushCells
    split at hm
    · rename_i hk
      rw [if_pos hk]
      have hk : k = .cell := by simpa using hk
      rw [← Heap.size_push h { cls := .type "cell", data := .cell none }] at hm
      rcases cells_mem hm with hm | ⟨h1, h2, h3⟩
      · rcases List.mem_cons.mp hm with e | hm
        · cases e
          exact .inr ⟨hk ▸ List.mem_cons_self, Nat.le_refl _, _, pushCells_keeps r _ _ _ (Heap.get?_push_size _ rfl), rfl⟩
        · exact .inl hm
      · rw [Heap.size_push] at h2
        exact .inr ⟨List.mem_cons_of_mem _ h1, Nat.le_of_succ_le h2, h3⟩
    · rename_i hk
      rw [if_neg hk]
      rcases cells_mem hm with hm | ⟨h1, h2, h3⟩
      · exact .inl hm
      · exact .inr ⟨List.mem_cons_of_mem _ h1, h2, h3⟩
theorem cells_acc : ∀ {names : List (Str × NameKind)} {n : Nat} {acc : List (Str × Addr)} {p : Str × Addr}, p ∈ acc → p ∈ cellsFrom n names acc
  | [], _, _, _, h => h
  | (m, k) :: r, n, acc, p, h => by
    unfold cellsFrom
    split
    · exact cells_acc (List.mem_cons_of_mem _ h)
    · exact cells_acc h
theorem cells_has : ∀ {names : List (Str × NameKind)} {n : Nat} {acc : List (Str × Addr)} {x : Str}, (x, .cell) ∈ names → ∃ c, (x, c) ∈ cellsFrom n names acc
  | (m, k) :: r, n, acc, x, h => by
    unfold cellsFrom
    rcases List.mem_cons.mp h with e | h
    · cases e
      exact ⟨n, cells_acc List.mem_cons_self⟩
    · split
      · exact cells_has h
      · exact cells_has h
theorem cells_inj : ∀ {names : List (Str × NameKind)} {h : Heap} {acc : List (Str × Addr)} {x y : Str} {c : Addr}, (∀ p ∈ acc, p.2 < h.objs.size) → (∀ x y c, (x, c) ∈ acc → (y, c) ∈ acc → x = y) →
    (x, c) ∈ cellsFrom h.objs.size names acc → (y, c) ∈ cellsFrom h.objs.size names acc → x = y
  | [], _, _, _, _, _, _, hi, h1, h2 => hi _ _ _ h1 h2
  | (n, k) :: r, h, acc, x, y, c, hl, hi, h1, h2 => by
    unfold cellsFrom at h1 h2
    split at h1
    · rename_i hk
      rw [if_pos hk] at h2
      rw [← Heap.size_push h { cls := .type "cell", data := .cell none }] at h1 h2
      refine cells_inj (h := h.push _) (fun p hp => ?_) (fun x y c a b => ?_) h1 h2
      · rw [Heap.size_push]
        rcases List.mem_cons.mp hp with rfl | hp
        · exact Nat.lt_succ_self _
        · exact Nat.lt_succ_of_lt (hl p hp)
      · rcases List.mem_cons.mp a with e | a <;> rcases List.mem_cons.mp b with e' | b
        · cases e; cases e'; rfl
        · cases e; exact absurd (hl _ b) (Nat.lt_irrefl _)
        · cases e'; exact absurd (hl _ a) (Nat.lt_irrefl _)
        · exact hi _ _ _ a b
    · rename_i hk
      rw [if_neg hk] at h2
      exact cells_inj hl hi h1 h2

theorem newEnv_comp {M : Model} {A : Around} {E : Value → Shared → Prop} {s : Shared} {scope : Scope} {globals : Addr} {closure : List (Str × Addr)} {qual : Str} {func : Option Addr} {code : Value} {around : Env} {builtins : Addr} {Q : Env → Shared → Prop}
    (h : Q (newEnv scope s.heap.objs.size globals (cellsFrom (s.heap.objs.size + 1) scope.names closure) qual func code (some around) builtins)
      { s with heap := pushCells (s.heap.push { cls := .type "dict", data := .dict #[] }) scope.names }) :
    wpAny M A (newFunctionEnv scope globals closure [] qual func code (some around) builtins) Q E s := by
  simp only [newFunctionEnv, Option.isSome_some, if_true]
  refine wpAny_bind (wpAny_alloc ?_)
  refine wpAny_bind (wpAny_layCells _ (fun n k c => rfl) scope.names closure _ _ ?_)
  rw [show ({ s with heap := s.heap.push { cls := .type "dict", data := .dict #[] } } : Shared).heap.objs.size = s.heap.objs.size + 1 from Heap.size_push ..]
  rw [List.forIn_nil]
  exact wpAny_bind (wpAny_pure (wpAny_pure h))

/-- every name of the written scope, in the scope that runs -/
theorem lookup_relS {sc : Scope} : ∀ {names : List (Str × NameKind)} {x : Str} {k : NameKind},
    (names.map fun (n, k) => if (k == NameKind.free && sc.kind == .function && sc.names.lookup n == some .cell) then (n, NameKind.cell) else (n, k)).lookup x = some k →
    ∃ k', names.lookup x = some k' ∧ (k = k' ∨ (k' = .free ∧ k = .cell))
  | [], _, _, h => by simp at h
  | (n, k₀) :: r, x, k, h => by
    have ih := @lookup_relS sc r x k
    have h' : List.lookup x ((if (k₀ == NameKind.free && sc.kind == .function && sc.names.lookup n == some .cell) = true then (n, NameKind.cell) else (n, k₀)) :: (r.map _)) = some k := h
    cases hx : x == n with
    | true =>
      simp only [List.lookup_cons, hx]
      by_cases hc : (k₀ == NameKind.free && sc.kind == .function && sc.names.lookup n == some .cell) = true
      · rw [if_pos hc] at h'
        simp only [List.lookup_cons, hx] at h'
        cases h'
        simp only [Bool.and_eq_true, beq_iff_eq] at hc
        exact ⟨k₀, rfl, .inr ⟨hc.1.1, rfl⟩⟩
      · rw [if_neg hc] at h'
        simp only [List.lookup_cons, hx] at h'
        cases h'
        exact ⟨_, rfl, .inl rfl⟩
    | false =>
      simp only [List.lookup_cons, hx]
      by_cases hc : (k₀ == NameKind.free && sc.kind == .function && sc.names.lookup n == some .cell) = true
      · rw [if_pos hc] at h'
        simp only [List.lookup_cons, hx] at h'
        exact ih h'
      · rw [if_neg hc] at h'
        simp only [List.lookup_cons, hx] at h'
        exact ih h'
/-- the names of a comprehension's block: its own (with their places in N), or captured -/
structure BlkOk (N : List Str) (sc scope : Scope) (own : List (Str × Nat)) : Prop where
  kind : scope.kind = .function
  uniq : ∀ y ∈ scope.names, scope.names.lookup y.1 = some y.2
  ix : ∀ p ∈ own, N[p.2]? = some p.1
  free : ∀ y ∈ scope.names, y.2 = .free → sc.names.lookup y.1 = some .cell ∨ sc.names.lookup y.1 = some .free
  own : ∀ y ∈ scope.names, y.2 = .local ∨ y.2 = .cell → y.1 ∈ own.map (·.1) ∨ y.1 ∉ N
/-- the slots of the block's own names forgotten -/
def wipe (σ : St) : List Nat → St
  | [] => σ
  | v :: vs => (wipe σ vs).set v none
theorem wipe_length (σ : St) : ∀ vs : List Nat, (wipe σ vs).length = σ.length
  | [] => rfl
  | v :: vs => by unfold wipe; rw [List.length_set, wipe_length σ vs]
theorem wipe_some {σ : St} {i : Nat} {x : V} : ∀ {vs : List Nat}, (wipe σ vs)[i]? = some (some x) → σ[i]? = some (some x) ∧ i ∉ vs
  | [], h => ⟨h, by simp⟩
  | v :: vs, h => by
    unfold wipe at h
    by_cases hi : v = i
    · subst hi
      by_cases hv : v < (wipe σ vs).length
      · rw [List.getElem?_set_self hv] at h; cases h
      · rw [List.getElem?_eq_none (by simpa using hv)] at h; cases h
    · rw [List.getElem?_set_ne hi] at h
      obtain ⟨h1, h2⟩ := wipe_some h
      exact ⟨h1, by simp only [List.mem_cons, not_or]; exact ⟨fun e => hi e.symm, h2⟩⟩

/-- the context of a block that starts at s, its iterator's objects at fp -/
abbrev Cx.blk (X : Cx) (s : Shared) (H : Hp) (scope : Scope) (cenv : Env) (fp : List Addr) : Cx := { X with s_0 := s, H_0 := H, env := cenv, outer := X.stack, ex := fp, fn := fun x => scope.names.lookup x == some .cell, pn := [], xe := fun _ _ => False }
section
variable {X : Cx} {pins : List (Addr × Obj)} {σ : St} {H : Hp} {s : Shared}
theorem block_start {scope : Scope} {own : List (Str × Nat)} {fp : List Addr} (I : Inv X pins σ H s) (ok : BlkOk X.N X.env.scope scope own) (hN : X.N.Nodup) (hfp : ∀ b ∈ fp, FpOk X pins H b ∧ b < s.heap.objs.size) :
    Inv (X.blk s H scope (compEnvC scope (cellsFrom (s.heap.objs.size + 1) scope.names (cloFrom X.env.cells scope.names [])) s.heap.objs.size X.env) fp) [] (wipe σ (own.map (·.2))) H { s with heap := pushCells (s.heap.push { cls := .type "dict", data := .dict #[] }) scope.names } := by
  have hfree : ∀ y ∈ scope.names, y.2 = .free → ∃ c, X.env.cells.lookup y.1 = some c := fun y hy e => by
    rcases ok.free y hy e with k | k
    · exact I.ok.has _ (.inl k)
    · exact I.ok.has _ (.inr k)
  generalize hcenv : compEnvC scope (cellsFrom (s.heap.objs.size + 1) scope.names (cloFrom X.env.cells scope.names [])) s.heap.objs.size X.env = cenv
  have kp : ∀ b o, s.heap.get? b = some o → (pushCells (s.heap.push { cls := .type "dict", data := .dict #[] }) scope.names).get? b = some o := fun b o e => pushCells_keeps _ _ _ _ (Heap.get?_push_of_some _ e)
  have hL : cenv.locals = s.heap.objs.size := by rw [← hcenv]; rfl
  have hcl : cenv.cells = cellsFrom (s.heap.objs.size + 1) scope.names (cloFrom X.env.cells scope.names []) := by rw [← hcenv]; rfl
  have hsc : cenv.scope = relS scope X.env.scope := by rw [← hcenv]; rfl
  rw [← Heap.size_push s.heap { cls := .type "dict", data := .dict #[] }] at hcl
  have cm : ∀ {y c}, (y, c) ∈ cloFrom X.env.cells scope.names [] → X.env.cells.lookup y = some c ∧ c < s.heap.objs.size := fun {y c} hm => by
    rcases cloFrom_mem hm with hm | ⟨h1, rfl⟩
    · cases hm
    · obtain ⟨c, hc⟩ := hfree _ h1 rfl
      rw [hc]
      obtain ⟨w, z⟩ := I.cell _ _ hc
      exact ⟨rfl, z.lt⟩
  have mem : ∀ {y c}, cenv.cells.lookup y = some c → (X.env.cells.lookup y = some c ∧ c < s.heap.objs.size) ∨ (s.heap.objs.size + 1 ≤ c ∧ CellAt (pushCells (s.heap.push { cls := .type "dict", data := .dict #[] }) scope.names) c none) := fun {y c} e => by
    rw [hcl] at e
    rcases cells_mem (PySem.mem_of_lookup e) with hm | ⟨_, h2, h3⟩
    · exact .inl (cm hm)
    · rw [Heap.size_push] at h2; exact .inr ⟨h2, h3⟩
  have look : ∀ {y}, scope.names.lookup y = some .free → ∃ c, cenv.cells.lookup y = some c ∧ X.env.cells.lookup y = some c := fun {y} hl => by
    have hy : (y, NameKind.free) ∈ scope.names := PySem.mem_of_lookup hl
    obtain ⟨c', e'⟩ := mem_lookup (cells_acc (names := scope.names) (n := (s.heap.push { cls := .type "dict", data := .dict #[] }).objs.size) (cloFrom_has (cells := X.env.cells) (acc := []) hy))
    rw [← hcl] at e'
    refine ⟨c', e', ?_⟩
    rw [hcl] at e'
    rcases cells_mem (PySem.mem_of_lookup e') with hm | ⟨h1, _, _⟩
    · exact (cm hm).1
    · have := ok.uniq _ h1
      rw [hl] at this; cases this
  have okB : (X.blk s H scope cenv fp).Ok := by
    refine ⟨I.ok.mod, by show cenv.scope.kind = _; rw [hsc]; exact ok.kind, by show cenv.globals = _; rw [← hcenv]; exact I.ok.glob, by show cenv.builtins = _; rw [← hcenv]; exact I.ok.blt, by show s.heap.objs.size ≤ cenv.locals; rw [hL]; exact Nat.le_refl _,
      fun y z c e1 e2 => ?_, fun y hy => ?_, fun y c z e => ?_, I.ok.hd, I.ok.frames, .inl rfl, fun b hb => ⟨?_, fun y c e z => ?_⟩, I.bs, Nat.le_trans I.ok.bsz I.sz, fun b o e hb => ?_, fun b hb z => ?_, I.stack, I.stkFree⟩
    · have e1 : cenv.cells.lookup y = some c := e1
      have e2 : cenv.cells.lookup z = some c := e2
      rw [hcl] at e1 e2
      refine cells_inj (fun p hp => ?_) (fun y z c a b => I.ok.inj y z c (cm a).1 (cm b).1) (PySem.mem_of_lookup e1) (PySem.mem_of_lookup e2)
      rw [Heap.size_push]
      exact Nat.lt_succ_of_lt (cm (y := p.1) (c := p.2) hp).2
    · show ∃ c, cenv.cells.lookup y = some c
      have key : ∀ k, cenv.kindOf y = some k → (k = .cell ∨ k = .free) → ∃ c, cenv.cells.lookup y = some c := fun k hk hk' => by
        unfold Env.kindOf at hk
        rw [hsc] at hk
        obtain ⟨k', e, r⟩ := lookup_relS hk
        have : k' = .cell ∨ k' = .free := by
          rcases r with rfl | ⟨rfl, _⟩
          · exact hk'
          · exact .inr rfl
        rcases this with rfl | rfl
        · obtain ⟨c, hm⟩ := cells_has (n := (s.heap.push { cls := .type "dict", data := .dict #[] }).objs.size) (acc := cloFrom X.env.cells scope.names []) (PySem.mem_of_lookup e)
          obtain ⟨c', e'⟩ := mem_lookup hm
          exact ⟨c', by rw [hcl]; exact e'⟩
        · obtain ⟨c, h1, _⟩ := look e
          exact ⟨c, h1⟩
      rcases hy with hy | hy
      · exact key _ hy (.inl rfl)
      · exact key _ hy (.inr rfl)
    · have z : (scope.names.lookup y == some NameKind.cell) = true := z
      have z : scope.names.lookup y = some .cell := by simpa using z
      have e : cenv.cells.lookup y = some c := e
      rw [hcl] at e
      rcases cells_mem (PySem.mem_of_lookup e) with hm | ⟨_, h2, _⟩
      · rcases cloFrom_mem hm with hm | ⟨h1, _⟩
        · cases hm
        · have q := ok.uniq _ h1
          rw [z] at q; cases q
      · rw [Heap.size_push] at h2
        exact Nat.le_of_succ_le h2
    · show b ≠ cenv.locals
      rw [hL]; exact Nat.ne_of_lt (hfp b hb).2
    · have e : cenv.cells.lookup y = some c := e
      rcases mem e with ⟨h1, _⟩ | ⟨h1, _⟩
      · exact (hfp b hb).1.2.2.2.2.1 y c h1 z
      · have h2 : s.heap.objs.size + 1 ≤ b := by rw [← z]; exact h1
        exact absurd (Nat.lt_of_lt_of_le (hfp b hb).2 (Nat.le_of_succ_le h2)) (Nat.lt_irrefl _)
    · rcases (hfp b hb).1.2.2.2.1 with z | z
      · exact I.ok.noex b o e z
      · exact absurd (Nat.lt_of_lt_of_le (Heap.lt_size e) (Nat.le_trans I.ok.bsz z)) (Nat.lt_irrefl _)
    · rcases List.mem_cons.mp (I.stkSub b z) with z | z
      · exact (hfp b hb).1.2.1 z
      · exact (hfp b hb).1.2.2.1 z
  refine ⟨okB, rfl, I.bare, Un.kept kp, ⟨fun _ => none, ?_, fun i y av e1 e2 e3 => ?_⟩, fun y c e => ?_, ?_, fun y c e => ?_, fun p hp => ?_, I.hok.kept kp, by rw [wipe_length]; exact I.len⟩
  · show Heap.Ns _ cenv.locals _
    rw [hL]
    exact Heap.Ns.keeps (Heap.Ns.new ..) fun b o e => pushCells_keeps _ _ _ _ e
  · obtain ⟨e2, hne⟩ := wipe_some e2
    have hfr : scope.names.lookup y = some .free ∧ (cenv.kindOf y = some .cell ∨ cenv.kindOf y = some .free) := by
      have key : ∀ k, cenv.scope.names.lookup y = some k → k = .local ∨ k = .cell ∨ k = .free → scope.names.lookup y = some .free ∧ (cenv.kindOf y = some .cell ∨ cenv.kindOf y = some .free) := fun k hk hk' => by
        have hk0 := hk
        rw [hsc] at hk
        obtain ⟨k', e, r⟩ := lookup_relS hk
        have no : ¬ (k' = .local ∨ k' = .cell) := fun hh => by
          rcases ok.own _ (PySem.mem_of_lookup e) hh with e' | e'
          · obtain ⟨p, hp, hpy⟩ := List.mem_map.mp e'
            have e3 := ok.ix p hp
            have : p.1 = y := hpy
            rw [this] at e3
            exact hne (List.mem_map.mpr ⟨p, hp, nodup_ix hN e3 e1⟩)
          · exact e' (List.mem_of_getElem? e1)
        rcases r with rfl | ⟨rfl, rfl⟩
        · rcases hk' with rfl | rfl | rfl
          · exact absurd (.inl rfl) no
          · exact absurd (.inr rfl) no
          · exact ⟨e, .inr hk0⟩
        · exact ⟨e, .inl hk0⟩
      have e3 : Vis cenv.scope y := e3
      rcases e3 with e3 | e3 | e3
      · exact key _ e3 (.inl rfl)
      · exact key _ e3 (.inr (.inl rfl))
      · exact key _ e3 (.inr (.inr rfl))
    obtain ⟨m, hn, hl⟩ := I.loc
    have hvis : Vis X.env.scope y := (ok.free _ (PySem.mem_of_lookup hfr.1) rfl).elim (fun k => .inr (.inl k)) (fun k => .inr (.inr k))
    obtain ⟨w, r, q⟩ := hl i y av e1 e2 hvis
    refine ⟨w, r, .inr ⟨hfr.2, ?_⟩⟩
    obtain ⟨c, h1, h2⟩ := look hfr.1
    rcases q with ⟨k, _⟩ | ⟨_, c', e', z⟩
    · have k : X.env.scope.names.lookup y = some .local := k
      rcases ok.free _ (PySem.mem_of_lookup hfr.1) rfl with k' | k' <;> rw [show X.env.scope.names.lookup y = _ from k'] at k <;> cases k
    · rw [h2] at e'; cases e'
      exact ⟨c, h1, z.keeps kp⟩
  · have e : cenv.cells.lookup y = some c := e
    rcases mem e with ⟨h1, _⟩ | ⟨_, z⟩
    · obtain ⟨w, z⟩ := I.cell y c h1
      exact ⟨w, z.keeps kp⟩
    · exact ⟨_, z⟩
  · show H cenv.locals = none
    rw [hL]; exact I.hok.fresh (Nat.le_refl _)
  · have e : cenv.cells.lookup y = some c := e
    rcases mem e with ⟨h1, _⟩ | ⟨h1, _⟩
    · exact I.freeC y c h1
    · exact I.hok.fresh (Nat.le_of_succ_le h1)
  · exact absurd (show p ∈ ([] : List (Addr × Obj)) ++ [] from hp) (by simp)

/-- an item appended to a tracked list -/
theorem app_ok {E : Value → Shared → Prop} {D : Addr} {xs : List V} {y : V} {v : Value} {Q : Value → Shared → Prop} (I : Inv X pins σ H s) (hD : H D = some (.lst xs)) (hz : xs.length < sizeLine) (r : RelV y v)
    (h : ∀ s', Inv X pins σ (upd H D (.lst (xs ++ [y]))) s' → Q .none s') : wpAny (model X.prog X.w) X.A (call (.builtin "list.append") [.ref D, v]) Q E s := by
  obtain ⟨hz', its, n, ri, e⟩ := I.hok D _ hD
  have hl := ri.length
  refine append_at (hsz := by rw [List.size_toArray]; omega) e fun h' sb ho' => ?_
  refine h { s with heap := h' } (I.write (t' := s.toks) (by rw [hD]; trivial) (.inl rfl) (fun b u hb q => (sb.2 b hb).trans q) ⟨_, ho'⟩ ⟨by rw [List.length_append]; exact hz, its ++ [v], n + 1, ri.append (.cons r .nil), ?_⟩)
  rw [ho']
  simp

/-- a clause's tests -/
def PTs (X : Cx) (ifs : List Expr) (t : TT) : Prop :=
  ∀ (pins : List (Addr × Obj)) (s : Shared) (σ : St) (H : Hp) (Q : Bool → Hp → Prop), Inv X pins σ H s → t σ H Q →
    wpAny (model X.prog X.w) X.A (forIn ifs true fun c r => if r = true then do let ok ← isTrue c X.env (eval c X.env); pure (ForInStep.yield ok) else pure (ForInStep.yield r)) (TP X pins σ Q) X.xe s
def tYes : TT := fun _ H Q => Q true H
theorem pts_nil : PTs X [] tYes := fun _ _ _ H _ I h => wpAny_tests_nil ⟨H, I, h⟩
end

theorem thnF {α : Type} {t : Sem α} {Q Q' : α → Shared → Prop} {M : Model} {A : Around} {E : Value → Shared → Prop} {s : Shared} (h : wpAny M A t Q (fun _ _ => False) s) (hQ : ∀ a s, Q a s → Q' a s) : wpAny M A t Q' E s := wpAny_mono h hQ fun _ _ z => False.elim z

/-- the loop of a list comprehension's block, the target of any form (codeAny_compLoop_tests asks a target that no tuple goes to; statement and proof follow it, PyProof/CompMap.lean:41-61, with the step letOwnedTupleGo kept) -/
theorem compLoop_any {prog : Program} {w : World} {A : Around} {R : Result → Shared → Prop} {s : Shared} {elt target iter : Expr} {ifs : List Expr} {scope : Scope} {pos : Pos} {it acc : Value} {env : Env} (I : Nat → Shared → Prop)
    (turn : ∀ n s, I n s → wpAny (model prog w) A (pyNext it) (fun r s₁ => match r with
      | none => R (.ok .next) s₁
      | some v => wpAny (model prog w) A (letOwnedTupleGo target it v) (fun _ s₁' => wpAny (model prog w) A (assign target env v) (fun _ s₂ =>
          wpAny (model prog w) A (forIn ifs true fun c r => if r = true then do let ok ← isTrue c env (eval c env); pure (ForInStep.yield ok) else pure (ForInStep.yield r)) (fun ok s₃ =>
            if ok = true then wpAny (model prog w) A (eval elt env) (fun x s₄ =>
              wpAny (model prog w) A (call (.builtin "list.append") [acc, x]) (fun _ s₅ => ∃ m, m < n ∧ I m s₅) (notedBy (model prog w) A env fun e s' => R (.error e) s') s₄) (notedBy (model prog w) A env fun e s' => R (.error e) s') s₃
            else ∃ m, m < n ∧ I m s₃) (notedBy (model prog w) A env fun e s' => R (.error e) s') s₂) (notedBy (model prog w) A env fun e s' => R (.error e) s') s₁') (notedBy (model prog w) A env fun e s' => R (.error e) s') s₁) (notedBy (model prog w) A env fun e s' => R (.error e) s') s)
    (n : Nat) (h : I n s) :
    codeAny (model prog w) A (.compLoop (.ListComp elt [⟨target, iter, ifs, 0⟩] scope pos) 0 it acc env) R s := by
  refine codeAny_loop rfl I (fun n s hI => ?_) n h
  show wpAny _ A ((compTurn (.ListComp elt [⟨target, iter, ifs, 0⟩] scope pos) 0 it acc env).onRaise (fun x => do noteFrame x env; theTreesLotGoes x)) _ _ s
  refine wpAny_noted ?_
  rw [compTurn_list]
  refine wpAny_bind (wpAny_standAt (wpAny_bind (wpAny_mono (turn n s hI) (fun r s₁ h₁ => ?_) fun _ _ h' => h')))
  cases r with
  | none => exact wpAny_pure h₁
  | some v =>
    refine wpAny_bind (wpAny_mono h₁ (fun _ s₁' h₁' => ?_) fun _ _ h' => h')
    refine wpAny_bind (wpAny_mono h₁' (fun _ s₂ h₂ => wpAny_bind (wpAny_mono h₂ (fun ok s₃ h₃ => ?_) fun _ _ h' => h')) fun _ _ h' => h')
    cases ok with
    | false => exact wpAny_pure ⟨rfl, h₃⟩
    | true =>
      exact wpAny_bind (wpAny_bind (wpAny_mono h₃ (fun x s₄ h₄ => wpAny_bind (wpAny_mono h₄ (fun _ s₅ h₅ => wpAny_pure (wpAny_pure ⟨rfl, h₅⟩)) fun _ _ h' => h')) fun _ _ h' => h'))

section
variable {X : Cx}
/-- [elt for target in iter if ..]: D the new list; W by the turn and a measure, Nx what a turn is to reach -/
def tLc (wi : TI) (g : TG) (tt : TT) (te : TE) (vs : List Nat) : TE := fun σ H Q => wi σ H fun J H1 => ∀ D, H1 D = none → ∃ W : Nat → Nat → Hp → Prop, (∃ m, W 0 m (upd H1 D (.lst []))) ∧ ∀ i m H, W i m H →
  (J.stop i H ∧ Q (.ref D) H) ∨ (J.go i H ∧ ∃ Nx : Hp → Prop, (∀ H', Nx H' → ∃ m', m' < m ∧ W (i + 1) m' H') ∧ ∀ x H', J.yld i H x H' → g x (wipe σ vs) H' fun σ2 H2 => wipe σ2 vs = wipe σ vs ∧ tt σ2 H2 fun b H3 =>
    if b = true then te σ2 H3 fun y H4 => ∃ acc, H4 D = some (.lst acc) ∧ acc.length < sizeLine ∧ Nx (upd H4 D (.lst (acc ++ [y]))) else Nx H3)
theorem lc_core {pins : List (Addr × Obj)} {s : Shared} {σ : St} {H : Hp} {Q : VK} {elt tg iter : Expr} {ifs : List Expr} {scope : Scope} {own : List (Str × Nat)} {pos pos' : Pos} {wi : TI} {g : TG} {tt : TT} {te : TE} {use : Option (Value → Sem Unit)} {Qf : Value → Shared → Prop}
    (hc : X.calm = true) (hN : X.N.Nodup) (I : Inv X pins σ H s) (hi : PI X tg iter wi) (ok : BlkOk X.N X.env.scope scope own)
    (hg : ∀ (s : Shared) (H : Hp) (C : Addr) (cl : List (Str × Addr)) (fp : List Addr), PG (X.blk s H scope (compEnvC scope cl C X.env) fp) tg g) (ht : ∀ (s : Shared) (H : Hp) (C : Addr) (cl : List (Str × Addr)) (fp : List Addr), PTs (X.blk s H scope (compEnvC scope cl C X.env) fp) ifs tt)
    (he : ∀ (s : Shared) (H : Hp) (C : Addr) (cl : List (Str × Addr)) (fp : List Addr), PE (X.blk s H scope (compEnvC scope cl C X.env) fp) elt te) (hs : ∀ x, foldedSetIterable iter X.env x = pure x)
    (h : tLc wi g tt te (own.map (·.2)) σ H Q)
    (hRR : ∀ D C s' m H', Inv X pins σ H' s' → Q (.ref D) H' → s'.heap.Ns C m → FpOk X pins H' C → compPost (model X.prog X.w) X.A X.xe use Qf (.ref D) C (.ok .next) s') :
    wpAny (model X.prog X.w) X.A (comprehension (.ListComp elt [⟨tg, iter, ifs, 0⟩] scope pos) scope X.env pos' (newList []) false (eval iter X.env) use) Qf X.xe s := by
  have hfree : ∀ y ∈ scope.names, y.2 = .free → ∃ c, X.env.cells.lookup y.1 = some c := fun y hy e => by
    rcases ok.free y hy e with k | k
    · exact I.ok.has _ (.inl k)
    · exact I.ok.has _ (.inr k)
  refine wpAny_comprehension_free (use := use) rfl hs (closure_ok hfree) ok.kind (fun y hy e => by rw [ok.uniq y hy, e])
    (thn (hi pins s σ H _ I h) fun xv s1 hx => thn hx fun itv s2 h2 => ?_)
  obtain ⟨it, fp, tn, J, H2, e, I2, T, st2, f2, q⟩ := h2
  subst e
  refine wpAny_newObj_type (newEnv_comp ?_) (by show 0 ≤ sizeLine; decide)
  generalize hD : s2.heap.objs.size = D
  have hDn : H2 D = none := I2.hok.fresh (Nat.le_of_eq hD)
  obtain ⟨W, ⟨m0, w0⟩, turn⟩ := q D hDn
  -- the new list
  generalize hs3 : ({ s2 with heap := s2.heap.push { cls := .type "list", data := .seq ([] : List Value).toArray } } : Shared) = s3
  have I3 : Inv X pins σ (upd H2 D (.lst [])) s3 := by
    rw [← hs3]
    refine I2.laid (t' := s2.toks) (fun b o e => Heap.get?_push_of_some _ e) (Nat.le_of_eq hD) ⟨Nat.zero_le _, [], 0, .nil, ?_⟩
    rw [← hD]
    exact Heap.get?_push_size _ rfl
  have h3 : s3.heap = s2.heap.push { cls := .type "list", data := .seq ([] : List Value).toArray } := by rw [← hs3]
  have sz : ∀ b ∈ fp, b < s2.heap.objs.size := fun b hb => by
    obtain ⟨o, e, _⟩ := T.obj _ _ st2 b hb
    exact Heap.lt_size e
  have f3 : ∀ b ∈ fp, FpOk X pins (upd H2 D (.lst [])) b ∧ b < s3.heap.objs.size := fun b hb => by
    have hlt := sz b hb
    refine ⟨⟨?_, (f2 b hb).2⟩, by rw [h3, Heap.size_push]; exact Nat.lt_succ_of_lt hlt⟩
    rw [upd_ne (by rw [← hD]; exact Nat.ne_of_lt hlt)]
    exact (f2 b hb).1
  have st3 : tn 0 s3.heap := T.keep _ _ _ st2 fun b _ o e => by rw [h3]; exact Heap.get?_push_of_some _ e
  have I4 := block_start I3 ok hN f3
  have pg := hg s3 (upd H2 D (.lst [])) s3.heap.objs.size (cellsFrom (s3.heap.objs.size + 1) scope.names (cloFrom X.env.cells scope.names [])) fp
  have pt := ht s3 (upd H2 D (.lst [])) s3.heap.objs.size (cellsFrom (s3.heap.objs.size + 1) scope.names (cloFrom X.env.cells scope.names [])) fp
  have pe := he s3 (upd H2 D (.lst [])) s3.heap.objs.size (cellsFrom (s3.heap.objs.size + 1) scope.names (cloFrom X.env.cells scope.names [])) fp
  show codeAny _ _ (.compStart (.ListComp elt [⟨tg, iter, ifs, 0⟩] scope pos) 0 (.ref it) (.ref D) (compEnvC scope (cellsFrom (s3.heap.objs.size + 1) scope.names (cloFrom X.env.cells scope.names [])) s3.heap.objs.size X.env)) (compPost (model X.prog X.w) X.A X.xe use Qf (.ref D) s3.heap.objs.size) { s3 with heap := pushCells (s3.heap.push { cls := .type "dict", data := .dict #[] }) scope.names }
  have nfp : ∀ b ∈ fp, (upd H2 D (.lst [])) b = none := fun b hb => (f3 b hb).1.1
  generalize hce : compEnvC scope (cellsFrom (s3.heap.objs.size + 1) scope.names (cloFrom X.env.cells scope.names [])) s3.heap.objs.size X.env = ce at I4 pg pt pe ⊢
  have cL : ce.locals = s3.heap.objs.size := by subst hce; rfl
  generalize hH3 : upd H2 D (.lst []) = H3 at I3 I4 pg pt pe w0 nfp f3
  generalize hs4 : ({ s3 with heap := pushCells (s3.heap.push { cls := .type "dict", data := .dict #[] }) scope.names } : Shared) = s4 at I4 ⊢
  have st4 : tn 0 s4.heap := T.keep _ _ _ st3 fun b _ o e => by rw [← hs4]; exact pushCells_keeps _ _ _ _ (Heap.get?_push_of_some _ e)
  have stat : ∀ {σ' : St} {H' : Hp} {s' : Shared}, Inv (X.blk s3 H3 scope ce fp) [] σ' H' s' → (∀ b ∈ fp, H' b = none) → ∀ b ∈ fp, FpOk (X.blk s3 H3 scope ce fp) [] H' b := fun {σ' H' s'} I' hn b hb =>
    ⟨hn b hb, (I'.ok.exf b hb).1, I'.ok.exfs b hb, .inl hb, fun x c e => (I'.ok.exf b hb).2 x c e, fun p hp => absurd (show p ∈ ([] : List (Addr × Obj)) ++ [] from hp) (by simp)⟩
  have loop : codeAny (model X.prog X.w) X.A (.compLoop (.ListComp elt [⟨tg, iter, ifs, 0⟩] scope pos) 0 (.ref it) (.ref D) ce) (compPost (model X.prog X.w) X.A X.xe use Qf (.ref D) s3.heap.objs.size) s4 := by
    refine compLoop_any (fun n s' => ∃ i H', Inv (X.blk s3 H3 scope ce fp) [] (wipe σ (own.map (·.2))) H' s' ∧ tn i s'.heap ∧ (∀ b ∈ fp, H' b = none) ∧ W i n H') ?_ m0 ⟨0, H3, I4, st4, nfp, w0⟩
    rintro n s5 ⟨i, H5, I5, st5, n5, w5⟩
    rcases turn i n H5 w5 with ⟨stop, qq⟩ | ⟨go, Nx, hNx, step⟩
    · have td := T.done (X.blk s3 H3 scope ce fp) rfl rfl rfl hc i [] s5 _ H5 (fun _ _ => False) I5 (stat I5 n5) st5 stop
      refine thnF td fun r s6 ⟨hr, I6⟩ => ?_
      subst hr
      -- back in the def's context
      have I7 : Inv X pins σ H5 s6 := I3.call' (ch := fp) I6.os I6.base I6.hok I6.bare fun b hb => ⟨(f3 b hb).1.2.2.2.1, (f3 b hb).1.2.1, (f3 b hb).1.2.2.2.2.1, (f3 b hb).1.2.2.2.2.2⟩
      have nC : H5 s3.heap.objs.size = none := by
        have z : H5 ce.locals = none := I6.free
        rw [cL] at z
        exact z
      obtain ⟨m, hn, _⟩ := I6.loc
      have hn : s6.heap.Ns ce.locals m := hn
      rw [cL] at hn
      exact hRR D s3.heap.objs.size s6 m H5 I7 qq hn (I3.fpOk (Nat.le_refl _) nC)
    · have ti := T.item (X.blk s3 H3 scope ce fp) rfl rfl rfl hc i [] s5 _ H5 (fun _ _ => False) I5 (stat I5 n5) st5 go
      refine thnF ti fun r s6 ⟨u, hr, h6⟩ => ?_
      subst hr
      refine thnF h6 fun _ s7 ⟨x, H7, I7, r7, y7, st7, n7⟩ => ?_
      have I7' := I7.pinned (stat I7 n7) (T.obj _ _ st7)
      refine thnF (pg _ s7 _ H7 x u _ I7' r7 (step x H7 y7)) fun _ s8 ⟨σ8, H8, I8, hw8, q8⟩ => ?_
      refine thnF (pt _ s8 σ8 H8 _ I8 q8) fun b s9 ⟨H9, I9, q9⟩ => ?_
      -- the turn's end
      have fin : ∀ {s' : Shared} {H' : Hp}, Inv (X.blk s3 H3 scope ce fp) ([] ++ pinsAt fp s7.heap) σ8 H' s' → Nx H' → ∃ m, m < n ∧ ∃ i H', Inv (X.blk s3 H3 scope ce fp) [] (wipe σ (own.map (·.2))) H' s' ∧ tn i s'.heap ∧ (∀ b ∈ fp, H' b = none) ∧ W i m H' := fun {s' H'} I' nx => by
        obtain ⟨m', hm, w'⟩ := hNx H' nx
        have pin' : ∀ b ∈ fp, ∀ o, s7.heap.get? b = some o → s'.heap.get? b = some o ∧ H' b = none := fun b hb o e =>
          let z := I'.pin (b, o) (List.mem_append_right _ (List.mem_append_right _ (mem_pinsAt hb e)))
          ⟨z.1, z.2.1⟩
        have hl : (wipe σ (own.map (·.2))).length = σ8.length := by rw [← hw8, wipe_length]
        refine ⟨m', hm, i + 1, H', (I'.unpinned (pins := [])).weak hl (fun j v e => ?_), T.keep _ _ _ st7 fun b hb o e => (pin' b hb o e).1, fun b hb => ?_, w'⟩
        · rw [← hw8] at e
          exact (wipe_some e).1
        · obtain ⟨o, e, _⟩ := T.obj _ _ st7 b hb
          exact (pin' b hb o e).2
      cases b with
      | false =>
        simp only [Bool.false_eq_true, if_false] at q9 ⊢
        exact fin I9 q9
      | true =>
        simp only [if_true] at q9 ⊢
        refine thnF (pe _ s9 σ8 H9 _ I9 q9) fun z s10 ⟨yv, H10, I10, r10, acc, hD10, hz10, nx⟩ => ?_
        exact app_ok (X := X.blk s3 H3 scope ce fp) I10 hD10 hz10 r10 fun s11 I11 => fin I11 nx
  exact codeAny_compStart_list loop (T.self X.A 0 _ _ _ st4 loop)
/-- as a value -/
theorem pe_lc {elt tg iter : Expr} {ifs : List Expr} {scope : Scope} {own : List (Str × Nat)} {pos : Pos} {wi : TI} {g : TG} {tt : TT} {te : TE} (hc : X.calm = true) (hN : X.N.Nodup) (hi : PI X tg iter wi) (ok : BlkOk X.N X.env.scope scope own)
    (hg : ∀ (s : Shared) (H : Hp) (C : Addr) (cl : List (Str × Addr)) (fp : List Addr), PG (X.blk s H scope (compEnvC scope cl C X.env) fp) tg g) (ht : ∀ (s : Shared) (H : Hp) (C : Addr) (cl : List (Str × Addr)) (fp : List Addr), PTs (X.blk s H scope (compEnvC scope cl C X.env) fp) ifs tt)
    (he : ∀ (s : Shared) (H : Hp) (C : Addr) (cl : List (Str × Addr)) (fp : List Addr), PE (X.blk s H scope (compEnvC scope cl C X.env) fp) elt te) (hs : ∀ x, foldedSetIterable iter X.env x = pure x := by intro _; rfl) :
    PE X (.ListComp elt [⟨tg, iter, ifs, 0⟩] scope pos) (tLc wi g tt te (own.map (·.2))) := by
  intro pins s σ H Q I h
  rw [eval_ListComp]
  refine lc_core hc hN I hi ok hg ht he hs h fun D C s' m H' I' q hn f => ⟨m, hn, fun h'' sb => ?_⟩
  obtain ⟨f0, f1, f2, f3, f4, f5⟩ := f
  exact ⟨.ref D, H', I'.turned (t' := s'.toks) (fun b o hb e => (sb.2 b hb).trans e) f0 f1 f3 f4 f5, rfl, q⟩
end

/-- over a range: Pv by the turn and the heap (the new list at D within) -/
theorem lc_range {lo : Int} {n : Nat} {g : TG} {tt : TT} {te : TE} {vs : List Nat} {σ : St} {H1 : Hp} {D : Addr} {Qd : Hp → Prop} (Pv : Nat → Hp → Prop) (h0 : Pv 0 (upd H1 D (.lst [])))
    (hs : ∀ i H, i < n → Pv i H → g (.int (lo + i)) (wipe σ vs) H fun σ2 H2 => wipe σ2 vs = wipe σ vs ∧ tt σ2 H2 fun b H3 =>
      if b = true then te σ2 H3 fun y H4 => ∃ acc, H4 D = some (.lst acc) ∧ acc.length < sizeLine ∧ Pv (i + 1) (upd H4 D (.lst (acc ++ [y]))) else Pv (i + 1) H3) (hd : ∀ H, Pv n H → Qd H) :
    ∃ W : Nat → Nat → Hp → Prop, (∃ m, W 0 m (upd H1 D (.lst []))) ∧ ∀ i m H, W i m H →
      ((Itr lo n).stop i H ∧ Qd H) ∨ ((Itr lo n).go i H ∧ ∃ Nx : Hp → Prop, (∀ H', Nx H' → ∃ m', m' < m ∧ W (i + 1) m' H') ∧ ∀ x H', (Itr lo n).yld i H x H' → g x (wipe σ vs) H' fun σ2 H2 => wipe σ2 vs = wipe σ vs ∧ tt σ2 H2 fun b H3 =>
        if b = true then te σ2 H3 fun y H4 => ∃ acc, H4 D = some (.lst acc) ∧ acc.length < sizeLine ∧ Nx (upd H4 D (.lst (acc ++ [y]))) else Nx H3) := by
  refine ⟨fun i m H => m = n - i ∧ i ≤ n ∧ Pv i H, ⟨n, by simp, Nat.zero_le _, h0⟩, ?_⟩
  rintro i m H ⟨rfl, hi, p⟩
  by_cases hlt : i < n
  · refine .inr ⟨hlt, Pv (i + 1), fun H' p' => ⟨n - (i + 1), by omega, rfl, hlt, p'⟩, fun x H' y => ?_⟩
    obtain ⟨e, y⟩ := y
    subst e y
    exact hs i _ hlt p
  · have e : i = n := by omega
    subst e
    exact .inl ⟨Nat.le_refl _, hd H p⟩
/-- over a list that the block leaves as it is -/
theorem lc_list {K : PySem.W.Frag} {a : Addr} {xs : List V} {g : TG} {tt : TT} {te : TE} {vs : List Nat} {σ : St} {H1 : Hp} {D : Addr} {Qd : Hp → Prop} (Pv : Nat → Hp → Prop) (h0 : Pv 0 (upd H1 D (.lst []))) (hl : ∀ i H, i ≤ xs.length → Pv i H → SqL K H a xs)
    (hs : ∀ i x H, xs[i]? = some x → Pv i H → g x (wipe σ vs) H fun σ2 H2 => wipe σ2 vs = wipe σ vs ∧ tt σ2 H2 fun b H3 =>
      if b = true then te σ2 H3 fun y H4 => ∃ acc, H4 D = some (.lst acc) ∧ acc.length < sizeLine ∧ Pv (i + 1) (upd H4 D (.lst (acc ++ [y]))) else Pv (i + 1) H3) (hd : ∀ H, Pv xs.length H → Qd H) :
    ∃ W : Nat → Nat → Hp → Prop, (∃ m, W 0 m (upd H1 D (.lst []))) ∧ ∀ i m H, W i m H →
      ((Itl K a).stop i H ∧ Qd H) ∨ ((Itl K a).go i H ∧ ∃ Nx : Hp → Prop, (∀ H', Nx H' → ∃ m', m' < m ∧ W (i + 1) m' H') ∧ ∀ x H', (Itl K a).yld i H x H' → g x (wipe σ vs) H' fun σ2 H2 => wipe σ2 vs = wipe σ vs ∧ tt σ2 H2 fun b H3 =>
        if b = true then te σ2 H3 fun y H4 => ∃ acc, H4 D = some (.lst acc) ∧ acc.length < sizeLine ∧ Nx (upd H4 D (.lst (acc ++ [y]))) else Nx H3) := by
  refine ⟨fun i m H => m = xs.length - i ∧ i ≤ xs.length ∧ Pv i H, ⟨xs.length, by simp, Nat.zero_le _, h0⟩, ?_⟩
  rintro i m H ⟨rfl, hi, p⟩
  have q := hl i H hi p
  by_cases hlt : i < xs.length
  · refine .inr ⟨⟨xs, xs[i], q, by simp [hlt]⟩, Pv (i + 1), fun H' p' => ⟨xs.length - (i + 1), by omega, rfl, hlt, p'⟩, fun x H' y => ?_⟩
    obtain ⟨e, y⟩ := y
    subst e
    exact hs i x _ (y xs q) p
  · have e : i = xs.length := by omega
    subst e
    exact .inl ⟨⟨xs, q, Nat.le_refl _⟩, hd H p⟩
def blkC (N : List Str) (sc scope : Scope) (own : List (Str × Nat)) : Bool :=
  (match scope.kind with | .function => true | _ => false) && (scope.names.all fun y => decide (scope.names.lookup y.1 = some y.2)) && (own.all fun p => decide (N[p.2]? = some p.1)) &&
    (scope.names.all fun y => match y.2 with
      | .free => (match sc.names.lookup y.1 with | some .cell => true | some .free => true | _ => false)
      | .local => decide (y.1 ∈ own.map (·.1)) || decide (y.1 ∉ N)
      | .cell => decide (y.1 ∈ own.map (·.1)) || decide (y.1 ∉ N)
      | _ => true)
theorem blkOk_by {N : List Str} {sc scope : Scope} {own : List (Str × Nat)} (h : blkC N sc scope own = true) : BlkOk N sc scope own := by
  unfold blkC at h
  simp only [Bool.and_eq_true, List.all_eq_true, decide_eq_true_eq] at h
  obtain ⟨⟨⟨h1, h2⟩, h3⟩, h4⟩ := h
  refine ⟨?_, h2, h3, fun y hy e => ?_, fun y hy e => ?_⟩
  · split at h1
    · assumption
    · cases h1
  · have q := h4 y hy
    simp only [e] at q
    split at q <;> first | exact .inl (by assumption) | exact .inr (by assumption) | cases q
  · have q := h4 y hy
    rcases e with e | e <;> (simp only [e, Bool.or_eq_true, decide_eq_true_eq] at q; exact q)
end L2

namespace L2
open PySem PySem.Spec PyProof.Rows

section
variable {prog : Program} {w : World} {A : Around} {R : Result → Shared → Prop} {s : Shared} {elt t0 i0 t1 i1 : Expr} {ifs0 ifs1 : List Expr} {scope : Scope} {pos : Pos} {it acc : Value} {env : Env}
end

section
variable {X : Cx}
end
end L2

namespace L2
open PySem PySem.Spec PyProof.Rows

section
variable {κ : Type} [DecidableEq κ]
end


section
variable {P : Program} {w : World} {H : Hp} {h : Heap} {a : Addr}
end

section
variable {X : Cx} {pins : List (Addr × Obj)} {σ : St} {H : Hp} {s : Shared} {a : Addr} {y v : V} {u r : Value} {o : Option V} {A : Around} {E : Value → Shared → Prop}

end

section
variable {X : Cx} {pins : List (Addr × Obj)} {σ : St} {H : Hp} {s : Shared} {a : Addr} {kvs : List (Key × V)} {k : Key} {u : Value} {A : Around} {E : Value → Shared → Prop}
end


section
variable {X : Cx} {o i e value : Expr} {pos pos' tpos : Pos} {td ty tv : TE}
end


section
variable {X : Cx} {pos : Pos}
end

section
variable {X : Cx} {pins : List (Addr × Obj)} {σ : St} {H : Hp} {s : Shared} {a : Addr} {y d : V} {u r : Value} {o : Option V} {A : Around} {E : Value → Shared → Prop}
end

section
variable {X : Cx} {o e f : Expr} {apos cpos : Pos} {td ty tx : TE}
end

section
variable {X : Cx} {pins : List (Addr × Obj)} {σ : St} {H : Hp} {s : Shared} {a : Addr} {kvs : List (Key × V)} {A : Around} {E : Value → Shared → Prop}
end


section
variable {X : Cx} {pins : List (Addr × Obj)} {σ : St} {H : Hp} {s : Shared} {a : Addr} {y : V} {u : Value} {A : Around} {E : Value → Shared → Prop}
end
end L2

namespace L2
open PySem PySem.Spec PyProof.Rows

section
variable {prog : Program} {w : World} {A : Around} {E : Value → Shared → Prop}
end

section
variable {X : Cx}
end
end L2

namespace L2
open PySem PySem.Spec PyProof.Rows

section
variable {X : Cx} {pins : List (Addr × Obj)} {σ : St} {H : Hp} {s : Shared} {h' : Heap}
end
section
variable {X : Cx}
end

section
variable {X : Cx} {tg : Expr}
end
section
variable {X : Cx} {tg : Expr}
end

section
variable {prog : Program} {w : World} {A : Around} {E : Value → Shared → Prop} {s : Shared}
end

section
variable {X : Cx} {pins : List (Addr × Obj)} {σ : St} {H : Hp} {s : Shared} {d : Addr} {o : Obj}
end

section
variable {P : Program} {w : World} {K : PySem.W.Frag} {tg : Expr} {d : Addr} {o : Obj} {es : Array DictEntry} {ep : Nat}
end

section
variable {X : Cx} {tg e : Expr} {td : TE} {apos cpos : Pos}
end

end L2

section 
namespace Bits
open PySem PyProof.Rows

theorem nat_and_mul_pow (k : Nat) : ∀ a b : Nat, a < 2 ^ k → a &&& (b * 2 ^ k) = 0 := by
  induction k with
  | zero =>
    intro a b h
    have h0 : a = 0 := by
      rw [Nat.pow_zero] at h
      omega
    subst h0
    simp
  | succ k ih =>
    intro a b h
    have hm : (b * 2 ^ (k + 1)) = (b * 2 ^ k) * 2 := by rw [Nat.pow_succ, Nat.mul_assoc]
    have hlt : a / 2 < 2 ^ k := by
      rw [Nat.pow_succ] at h
      generalize 2 ^ k = m at h ⊢
      omega
    have i := ih (a / 2) b hlt
    rw [hm]
    generalize b * 2 ^ k = B at i ⊢
    have e : (a &&& (B * 2)) / 2 = a / 2 &&& (B * 2) / 2 := Nat.and_div_two
    have e2 : (B * 2) / 2 = B := by omega
    have o := @Nat.and_mod_two_eq_one a (B * 2)
    rw [e2, i] at e
    omega

theorem natCast_mul_pow (m k : Nat) : (m : Int) * 2 ^ k = ((m * 2 ^ k : Nat) : Int) := by
  rw [two_pow_cast]
  first
    | exact (Int.natCast_mul _ _).symm
    | simp

/-- low bits a, high part b: (b << k) | a -/
theorem bitOr_join {a b : Int} {k : Nat} (h0 : 0 ≤ a) (h1 : a < 2 ^ k) (hb : 0 ≤ b) : Builtin.bitOr a (b * 2 ^ k) = a + b * 2 ^ k := by
  obtain ⟨n, rfl⟩ := Int.eq_ofNat_of_zero_le h0
  obtain ⟨m, rfl⟩ := Int.eq_ofNat_of_zero_le hb
  have hn : n < 2 ^ k := by
    rw [two_pow_cast] at h1
    omega
  have e : Builtin.bitAnd (n : Int) ((m * 2 ^ k : Nat) : Int) = 0 := by
    rw [bitAnd_pp (by omega) (by omega), Int.toNat_natCast, Int.toNat_natCast, nat_and_mul_pow k n m hn] <;> rfl
  rw [natCast_mul_pow, bitOr_and, e]
  omega
theorem bitOr_join' {a b : Int} {k : Nat} (h0 : 0 ≤ a) (h1 : a < 2 ^ k) (hb : 0 ≤ b) : Builtin.bitOr (b * 2 ^ k) a = a + b * 2 ^ k := by
  rw [bitOr_comm]
  exact bitOr_join h0 h1 hb

end Bits
end 

section 
namespace TL
open PySem PySem.Builtin PySem.Builtin.Str PySem.StrLaws

end TL
end 

namespace L2
open PySem PySem.Spec PyProof.Rows

section
variable {X : Cx} {pins : List (Addr × Obj)} {σ : St} {H : Hp} {s : Shared} {Q : VK}
end

section
variable {X : Cx}

end

section
variable {X : Cx} {o e : Expr} {to te : TE}
end
end L2

namespace L2
open PySem PySem.Spec PyProof.Rows

section
variable {X : Cx}
end

end L2

namespace Att
open PySem PySem.W PySem.Calls PyProof.Rows

section
variable {prog : Program} {w : World} {A : Around} {E : Value → Shared → Prop} {s : Shared} {K : Frag}

end
end Att

namespace L2
open PySem PySem.Spec PyProof.Rows

end L2

namespace L2
open PySem PySem.Spec PyProof.Rows

end L2


namespace L2
open PySem PySem.Spec PyProof.Rows

/-- the j-th statement of a class's body -/
def inClass (s : Stmt) (j : Nat) : Stmt := match s with
  | .ClassDef _ _ _ body _ _ _ _ _ _ _ => body.getD j (.Pass ⟨0, 0, 0, 0⟩)
  | _ => .Pass ⟨0, 0, 0, 0⟩
def defArgs (s : Stmt) : Arguments := match s with
  | .FunctionDef _ a _ _ _ _ _ _ _ _ => a
  | _ => { posonlyargs := [], args := [], vararg := none, kwonlyargs := [], kw_defaults := [], kwarg := none, defaults := [] }
def defBody (s : Stmt) : List Stmt := match s with
  | .FunctionDef _ _ b _ _ _ _ _ _ _ => b
  | _ => []
def defScope (s : Stmt) : Scope := match s with
  | .FunctionDef _ _ _ _ _ _ sc _ _ _ => sc
  | _ => { kind := .function, names := [], isGenerator := false, isCoroutine := false }

abbrev CX0 : CXT := fun _ _ _ _ _ _ => False
abbrev E0 : XK := fun _ _ _ => False
theorem pass0 {X : Cx} : Passes CX0 X E0 := fun _ _ _ _ _ _ _ h => h.elim

structure Fun (K : PySem.W.Frag) (x qual : Str) (st : Stmt) (f : Addr) (fd : FuncData) : Prop where
  ex : ∃ (oc : Value) (od : Option Addr) (kV doc pm : Value) (an : Option Addr) (cdv ct : Value) (osl : Array (Option Value)),
    fd = PySem.W.fnOf x qual (defArgs st) (defBody st) (defScope st) .none kV doc pm an cdv ct ∧ K.lookup f = some ⟨oc, od, .func fd, osl⟩ ∧ PySem.W.codeIn K cdv qual = true
  kp : PySem.W.keepIn K (.ref f) = true
section
variable {P : Program} {w : World} {K : PySem.W.Frag} {mg : Str → Option Value} {base : Heap}
/-- THE RULE for a def: its body as a term of rules, and the reading of that term -/
theorem Fun.ok {x qual : Str} {st : Stmt} {f : Addr} {fd : FuncData} {N ps : List Str} {k : Nat} {sp : Sp} (F : Fun K x qual st f fd) (S : FnScope N ps (defScope st)) (len : ∀ vs H Q E, sp vs H Q E → vs.length = ps.length)
    (hbody : ∀ (cdv : Value) (A : Around) (outer : List Env) (s : Shared) (H : Hp) (vs : List V) (Q : VK) (E : XK), Room k (A.deeper (envOfC qual (defScope st) s.heap.objs.size f cdv)) → sp vs H Q E →
      ∃ t, PSs (cxOf CX0 P w K mg base N qual (defScope st) f cdv A outer s H E).nox (defBody st) t ∧ t { nx := fun _ H' => Q .non H', rt := Q } (start N vs) H) : FnOk P w K mg base CX0 (k + 1) f fd ps sp := by
  obtain ⟨oc, od, kV, doc, pm, an, cdv, ct, osl, rfl, lk, hcd⟩ := F.ex
  refine fn_of lk hcd S len fun A outer s H vs Q E hr hsp => ?_
  obtain ⟨t, h, q⟩ := hbody cdv A outer s H vs Q E hr hsp
  exact ⟨t, h.nox, q⟩
/-- how its arguments bind (no defaults): h is «fun _ _ _ _ _ _ us hl => match us, hl with | [_, _], _ => rfl», one _ a parameter -/
theorem Fun.binds {x qual : Str} {st : Stmt} {f : Addr} {fd : FuncData} {ps : List Str} (F : Fun K x qual st f fd)
    (h : ∀ (kV doc pm : Value) (an : Option Addr) (cdv ct : Value) (us : List Value), us.length = ps.length → bindArgs (PySem.W.fnOf x qual (defArgs st) (defBody st) (defScope st) .none kV doc pm an cdv ct) ⟨us, []⟩ = pure (ps.zip us)) : Binds K fd ps [] := by
  obtain ⟨oc, od, kV, doc, pm, an, cdv, ct, osl, rfl, lk, hcd⟩ := F.ex
  exact .all (h kV doc pm an cdv ct)
theorem fun_mk {x qual : Str} {st : Stmt} {f : Addr} {oc : Value} {od an : Option Addr} {osl : Array (Option Value)} {kV doc pm cdv ct : Value} (l : K.lookup f = some ⟨oc, od, .func (PySem.W.fnOf x qual (defArgs st) (defBody st) (defScope st) .none kV doc pm an cdv ct), osl⟩)
    (c : PySem.W.codeIn K cdv qual = true) (k : PySem.W.keepIn K (.ref f) = true) : Fun K x qual st f (PySem.W.fnOf x qual (defArgs st) (defBody st) (defScope st) .none kV doc pm an cdv ct) := ⟨⟨oc, od, kV, doc, pm, an, cdv, ct, osl, rfl, l, c⟩, k⟩
end
section
variable {X : Cx}
theorem pv (i : Nat) {x : Str} {pos : Pos} (hN : X.N[i]? = some x := by rfl) (hv : Vis X.env.scope x := by first | exact Or.inl rfl | exact Or.inr (Or.inl rfl) | exact Or.inr (Or.inr rfl)) (hd : (x == ("__debug__" : Str)) = false := by decide)
    (hcd : (x == ("__classdict__" : Str)) = false := by decide) : PE X (.Name x pos) (tVar i) := pe_var hN hv hd hcd
end

theorem iteF {A B : Prop} (h : B) : if false = true then A else B := by
  rw [if_neg Bool.false_ne_true]
  exact h
theorem iteT {A B : Prop} (h : A) : if true = true then A else B := by
  rw [if_pos rfl]
  exact h
theorem ite2 {c A B : Prop} [Decidable c] (h1 : c → A) (h2 : ¬ c → B) : if c then A else B := by
  by_cases h : c
  · rw [if_pos h]
    exact h1 h
  · rw [if_neg h]
    exact h2 h
/-- all that was tracked is as it was -/
def Same (H H' : Hp) : Prop := ∀ b o, H b = some o → H' b = some o
theorem Same.trans {H H1 H2 : Hp} (a : Same H H1) (b : Same H1 H2) : Same H H2 := fun c o h => b c o (a c o h)
theorem Same.free {H H' : Hp} (e : Same H H') {l : Addr} (h : H' l = Option.none) : H l = Option.none := by
  cases q : H l with
  | none => rfl
  | some o =>
    rw [e l o q] at h
    cases h
section
variable {κ : Type} [DecidableEq κ]
end
theorem at_of {xs : List V} {z : Int} {j : Nat} {v : V} (e : z = (j : Int)) (h : xs[j]? = some v) : atI xs z = some v := by
  rw [e]
  exact atI_nat h
end L2


end
section
set_option Elab.async false
set_option linter.all false
set_option maxRecDepth 100000
set_option maxHeartbeats 2000000
namespace L2
open PySem PySem.Spec PyProof.Rows
open PySem.W (WData Codec OpenSpec Well WellAll ReadsW ReadsAllW)
/-! ### an answer as data -/
mutual
/-- x stands for the datum d, lists and tuples all the way -/
inductive Dw (K : PySem.W.Frag) (H : Hp) : V → WData → Prop
  | non : Dw K H .non .none
  | bl (b : Bool) : Dw K H (.bl b) (.bool b)
  | int (i : Int) : Dw K H (.int i) (.int i)
  | str (x : Str) : Dw K H (.str x) (.str x)
  | byt (b : Array UInt8) : Dw K H (.byt b) (.bytes b.toList)
  | lst {a : Addr} {xs : List V} {ds : List WData} : SqL K H a xs → DwAll K H xs ds → Dw K H (.ref a) (.list ds)
  | tup {a : Addr} {xs : List V} {ds : List WData} : SqT K H a xs → DwAll K H xs ds → Dw K H (.ref a) (.tuple ds)
inductive DwAll (K : PySem.W.Frag) (H : Hp) : List V → List WData → Prop
  | nil : DwAll K H [] []
  | cons {v : V} {vs : List V} {d : WData} {ds : List WData} : Dw K H v d → DwAll K H vs ds → DwAll K H (v :: vs) (d :: ds)
end
theorem dw_ints {K : PySem.W.Frag} {H : Hp} : ∀ ns : List Int, DwAll K H (ns.map V.int) (ns.map WData.int)
  | [] => .nil
  | n :: r => .cons (.int n) (dw_ints r)
theorem ints_dw {K : PySem.W.Frag} {H : Hp} : ∀ (ns : List Int) (xs : List V), DwAll K H xs (ns.map WData.int) → xs = ns.map V.int
  | [], xs, h => by
    cases h
    rfl
  | n :: r, xs, h => by
    cases h with
    | cons h1 h2 =>
      cases h1
      rw [ints_dw r _ h2] <;> rfl
section
variable {P : Program} {w : World} {K : PySem.W.Frag} {H : Hp} {h : Heap} {R : PySem.W.WRecords} {cl : Str → Option Addr}
theorem sqL_at {a : Addr} {xs : List V} (hok : HOk P w H h) (KX : K.In h) (q : SqL K H a xs) : ∃ (its : List Value) (o : Obj) (n : Nat), Vals xs its ∧ h.get? a = some o ∧ o.cls = .type "list" ∧ o.data = .seq its.toArray n := by
  rcases q with q | ⟨o, its, n, e, hc, _, hd, _, hv⟩
  · obtain ⟨_, its, n, hv, e⟩ := (show ObjOk P w H h a (.lst xs) from q.ok hok)
    exact ⟨its, _, n, hv, e, rfl, rfl⟩
  · exact ⟨its.toList, o, n, hv, KX _ _ e, hc, by simp [hd]⟩
theorem sqT_at {a : Addr} {xs : List V} (hok : HOk P w H h) (KX : K.In h) (q : SqT K H a xs) : ∃ (its : List Value) (o : Obj) (n : Nat), Vals xs its ∧ h.get? a = some o ∧ o.cls = .type "tuple" ∧ o.data = .seq its.toArray n := by
  rcases q with q | ⟨o, its, n, e, hc, hd, _, hv⟩
  · obtain ⟨_, its, hv, o, e, hc, n, hd⟩ := (show ObjOk P w H h a (.tup xs) from q.ok hok)
    exact ⟨its, o, n, hv, e, hc, hd⟩
  · exact ⟨its.toList, o, n, hv, KX _ _ e, hc, by simp [hd]⟩
mutual
theorem Dw.reads (hok : HOk P w H h) (KX : K.In h) : ∀ (d : WData) (v : V) (u : Value), Dw K H v d → RelV v u → ∃ as, ReadsW R cl h u d as
  | .none, _, _, x, r => by
    cases x
    cases r
    exact ⟨_, ReadsW.none⟩
  | .bool b, _, _, x, r => by
    cases x
    cases r
    exact ⟨_, ReadsW.bool b⟩
  | .int i, _, _, x, r => by
    cases x
    obtain ⟨t, rfl⟩ := r
    exact ⟨_, ReadsW.int i t⟩
  | .str s, _, _, x, r => by
    cases x
    obtain ⟨t, rfl⟩ := r
    exact ⟨_, ReadsW.str s t⟩
  | .bytes b, _, _, x, r => by
    cases x
    obtain ⟨t, rfl⟩ := r
    exact ⟨_, ReadsW.bytes _ t⟩
  | .list ds, _, _, x, r => by
    cases x with
    | lst hs ha =>
      cases r
      obtain ⟨its, o, n, rv, ho, hc, hd⟩ := sqL_at hok KX hs
      obtain ⟨as, hr⟩ := Dw.readsAll hok KX ds _ its ha rv
      exact ⟨_, ReadsW.list ho hc hd hr⟩
  | .tuple ds, _, _, x, r => by
    cases x with
    | tup hs ha =>
      cases r
      obtain ⟨its, o, n, rv, ho, hc, hd⟩ := sqT_at hok KX hs
      obtain ⟨as, hr⟩ := Dw.readsAll hok KX ds _ its ha rv
      exact ⟨_, ReadsW.tuple ho hc hd hr⟩
  | .float _, _, _, x, _ => by cases x
  | .dict _, _, _, x, _ => by cases x
  | .bytearray _, _, _, x, _ => by cases x
  | .set _, _, _, x, _ => by cases x
  | .frozenset _, _, _, x, _ => by cases x
  | .obj _ _, _, _, x, _ => by cases x
theorem Dw.readsAll (hok : HOk P w H h) (KX : K.In h) : ∀ (ds : List WData) (vs : List V) (us : List Value), DwAll K H vs ds → Vals vs us → ∃ as, ReadsAllW R cl h us ds as
  | [], _, _, x, r => by
    cases x
    cases r
    exact ⟨_, ReadsAllW.nil⟩
  | d :: ds, _, _, x, r => by
    cases x with
    | cons h1 h2 =>
      cases r with
      | cons r1 r2 =>
        obtain ⟨as, q1⟩ := Dw.reads hok KX d _ _ h1 r1
        obtain ⟨bs, q2⟩ := Dw.readsAll hok KX ds _ _ h2 r2
        exact ⟨_, ReadsAllW.cons q1 q2⟩
end
end
/-! ### the arguments -/
mutual
/-- data that a codec tells -/
def plW : WData → Bool
  | .none => true
  | .bool _ => true
  | .int _ => true
  | .str _ => true
  | .bytes _ => true
  | .list xs => plWs xs
  | .tuple xs => plWs xs
  | _ => false
def plWs : List WData → Bool
  | [] => true
  | x :: r => plW x && plWs r
end
theorem plWs_map {α : Type} {f : α → WData} (h : ∀ a, plW (f a) = true) : ∀ l : List α, plWs (l.map f) = true
  | [] => rfl
  | x :: r => by
    show (plW (f x) && plWs (r.map f)) = true
    rw [h x, plWs_map h r] <;> rfl
theorem pl_enc : ∀ (c : Codec) (a : c.denote), plW (c.enc a) = true
  | .unit, _ => rfl
  | .bool, _ => rfl
  | .int _ _, _ => rfl
  | .nat _ _, _ => rfl
  | .u8, _ => rfl
  | .bytes _ _, _ => rfl
  | .text _ _ _ _, _ => rfl
  | .list _ _ c, a => plWs_map (fun x => pl_enc c x) a
  | .pair c d, a => by
    show (plW (c.enc a.1) && (plW (d.enc a.2) && true)) = true
    rw [pl_enc c a.1, pl_enc d a.2] <;> rfl
  | .triple c d e, a => by
    show (plW (c.enc a.1) && (plW (d.enc a.2.1) && (plW (e.enc a.2.2) && true))) = true
    rw [pl_enc c a.1, pl_enc d a.2.1, pl_enc e a.2.2] <;> rfl
  | .option c, none => rfl
  | .option c, some x => pl_enc c x
theorem pl_encAll : ∀ (cs : List Codec) (a : Codec.denoteAll cs), plWs (Codec.encAll cs a) = true
  | [], _ => rfl
  | c :: cs, a => by
    show (plW (c.enc a.1) && plWs (Codec.encAll cs a.2)) = true
    rw [pl_enc c a.1, pl_encAll cs a.2] <;> rfl
theorem weight_mem : ∀ {xs : List WData} {d : WData}, d ∈ xs → d.weight ≤ WData.weightAll xs
  | [], d, h => absurd h (by simp)
  | x :: r, d, h => by
    show d.weight ≤ x.weight + 1 + WData.weightAll r
    rcases List.mem_cons.mp h with e | m
    · rw [e]
      omega
    · have z := weight_mem m
      omega
def toV : Value → V
  | .none => .non
  | .bool b => .bl b
  | .int i _ => .int i
  | .str x _ => .str x
  | .bytes b _ => .byt b
  | .ref a => .ref a
  | _ => .non
/-- a value of the arguments, its objects among A -/
def OkU (A : List Addr) : Value → Prop
  | .none => True
  | .bool _ => True
  | .int _ _ => True
  | .str _ _ => True
  | .bytes _ _ => True
  | .ref a => a ∈ A
  | _ => False
theorem OkU.mono {A B : List Addr} (h : ∀ a ∈ A, a ∈ B) : ∀ {u : Value}, OkU A u → OkU B u := fun {u} x => by
  cases u with
  | ref a => exact h a x
  | none => trivial
  | bool b => trivial
  | int i t => trivial
  | str s t => trivial
  | bytes b t => trivial
  | _ => exact False.elim x
theorem relV_toV {A : List Addr} {u : Value} (x : OkU A u) : RelV (toV u) u := by
  cases u with
  | ref a => rfl
  | none => rfl
  | bool b => rfl
  | int i t => exact ⟨t, rfl⟩
  | str s t => exact ⟨t, rfl⟩
  | bytes b t => exact ⟨t, rfl⟩
  | _ => exact False.elim x
theorem vals_toV {A : List Addr} : ∀ {vs : List Value}, (∀ u ∈ vs, OkU A u) → Vals (vs.map toV) vs
  | [], _ => .nil
  | u :: r, h => .cons (relV_toV (h u (List.mem_cons_self ..))) (vals_toV fun x hx => h x (List.mem_cons_of_mem _ hx))
/-- an object of the arguments -/
def ArgOb (h : Heap) (A : List Addr) (a : Addr) : Prop := ∃ vs : List Value, vs.length ≤ sizeLine ∧ (∀ u ∈ vs, OkU A u) ∧
  (h.get? a = some { cls := .type "list", data := .seq vs.toArray } ∨ h.get? a = some { cls := .type "tuple", data := .seq vs.toArray })
theorem ArgOb.mono {h : Heap} {A B : List Addr} {a : Addr} (k : ∀ a ∈ A, a ∈ B) (x : ArgOb h A a) : ArgOb h B a := by
  obtain ⟨vs, h1, h2, h3⟩ := x
  exact ⟨vs, h1, fun u hu => (h2 u hu).mono k, h3⟩
theorem wellAll_len {P : Params} {h : Heap} : ∀ {vs : List Value} {ds : List WData}, WellAll P h vs ds → vs.length = ds.length
  | _, _, .nil => rfl
  | _, _, .cons _ b => by
    show _ + 1 = _ + 1
    rw [wellAll_len b]
theorem well_list {P : Params} {h : Heap} {v : Value} {ds : List WData} (x : Well P h v (.list ds)) : ∃ (a : Addr) (vs : List Value), v = .ref a ∧ h.get? a = some { cls := .type "list", data := .seq vs.toArray } ∧ WellAll P h vs ds := by
  cases x with
  | list ho hall => exact ⟨_, _, rfl, ho, hall⟩
theorem well_tuple {P : Params} {h : Heap} {v : Value} {ds : List WData} (x : Well P h v (.tuple ds)) : ∃ (a : Addr) (vs : List Value), v = .ref a ∧ h.get? a = some { cls := .type "tuple", data := .seq vs.toArray } ∧ WellAll P h vs ds := by
  cases x with
  | tuple ho hall => exact ⟨_, _, rfl, ho, hall⟩
theorem well_cons {P : Params} {h : Heap} {us : List Value} {d : WData} {ds : List WData} (x : WellAll P h us (d :: ds)) : ∃ (v : Value) (vs : List Value), us = v :: vs ∧ Well P h v d ∧ WellAll P h vs ds := by
  cases x with
  | cons a b => exact ⟨_, _, rfl, a, b⟩
theorem line_of {n : Nat} (h : n ≤ 1048576) : n ≤ sizeLine := Nat.le_trans h (by decide)
section
variable {P : Params} {h : Heap}
mutual
theorem area_one : ∀ (d : WData) (v : Value), Well P h v d → plW d = true → d.weight ≤ 1048576 → ∃ A : List Addr, OkU A v ∧ ∀ a ∈ A, ArgOb h A a
  | .none, _, x, _, _ => by
    cases x
    exact ⟨[], trivial, fun a m => absurd m (by simp)⟩
  | .bool b, _, x, _, _ => by
    cases x
    exact ⟨[], trivial, fun a m => absurd m (by simp)⟩
  | .int i, _, x, _, _ => by
    cases x
    exact ⟨[], trivial, fun a m => absurd m (by simp)⟩
  | .str s, _, x, _, _ => by
    cases x
    exact ⟨[], trivial, fun a m => absurd m (by simp)⟩
  | .bytes b, _, x, _, _ => by
    cases x
    exact ⟨[], trivial, fun a m => absurd m (by simp)⟩
  | .list ds, _, x, p, z => by
    obtain ⟨a, vs, rfl, ho, hall⟩ := well_list x
    have z2 : WData.weightAll ds ≤ 1048576 := z
    obtain ⟨A, h1, h2⟩ := area_all ds _ hall p fun d hd => Nat.le_trans (weight_mem hd) z2
    have k : ∀ b ∈ A, b ∈ a :: A := fun b hb => List.mem_cons_of_mem _ hb
    refine ⟨a :: A, List.mem_cons_self .., fun b hb => ?_⟩
    rcases List.mem_cons.mp hb with e | m
    · rw [e]
      exact ⟨vs, line_of (by rw [wellAll_len hall]; exact Nat.le_trans (PySem.W.length_le_weightAllW ds) z2), fun u hu => (h1 u hu).mono k, .inl ho⟩
    · exact (h2 b m).mono k
  | .tuple ds, _, x, p, z => by
    obtain ⟨a, vs, rfl, ho, hall⟩ := well_tuple x
    have z2 : WData.weightAll ds ≤ 1048576 := z
    obtain ⟨A, h1, h2⟩ := area_all ds _ hall p fun d hd => Nat.le_trans (weight_mem hd) z2
    have k : ∀ b ∈ A, b ∈ a :: A := fun b hb => List.mem_cons_of_mem _ hb
    refine ⟨a :: A, List.mem_cons_self .., fun b hb => ?_⟩
    rcases List.mem_cons.mp hb with e | m
    · rw [e]
      exact ⟨vs, line_of (by rw [wellAll_len hall]; exact Nat.le_trans (PySem.W.length_le_weightAllW ds) z2), fun u hu => (h1 u hu).mono k, .inr ho⟩
    · exact (h2 b m).mono k
  | .float _, _, _, p, _ => Bool.noConfusion (show false = true from p)
  | .dict _, _, _, p, _ => Bool.noConfusion (show false = true from p)
  | .bytearray _, _, _, p, _ => Bool.noConfusion (show false = true from p)
  | .set _, _, _, p, _ => Bool.noConfusion (show false = true from p)
  | .frozenset _, _, _, p, _ => Bool.noConfusion (show false = true from p)
  | .obj _ _, _, _, p, _ => Bool.noConfusion (show false = true from p)
theorem area_all : ∀ (ds : List WData) (vs : List Value), WellAll P h vs ds → plWs ds = true → (∀ d ∈ ds, d.weight ≤ 1048576) → ∃ A : List Addr, (∀ u ∈ vs, OkU A u) ∧ ∀ a ∈ A, ArgOb h A a
  | [], _, x, _, _ => by
    cases x
    exact ⟨[], fun u m => absurd m (by simp), fun a m => absurd m (by simp)⟩
  | d :: ds, _, x, p, z => by
    obtain ⟨v, vs, rfl, x1, x2⟩ := well_cons x
    have q : plW d = true ∧ plWs ds = true := Bool.and_eq_true_iff.mp p
    obtain ⟨A, a1, a2⟩ := area_one d v x1 q.1 (z d (List.mem_cons_self ..))
    obtain ⟨B, b1, b2⟩ := area_all ds vs x2 q.2 fun e he => z e (List.mem_cons_of_mem _ he)
    have kA : ∀ b ∈ A, b ∈ A ++ B := fun b hb => List.mem_append.mpr (.inl hb)
    have kB : ∀ b ∈ B, b ∈ A ++ B := fun b hb => List.mem_append.mpr (.inr hb)
    refine ⟨A ++ B, fun u hu => ?_, fun b hb => ?_⟩
    · rcases List.mem_cons.mp hu with e | m
      · rw [e]
        exact a1.mono kA
      · exact (b1 u m).mono kB
    · rcases List.mem_append.mp hb with m | m
      · exact (a2 b m).mono kA
      · exact (b2 b m).mono kB
end
end
/-- what is tracked of an argument's object -/
def hoOf (o : Obj) : Option HO := match o.data with
  | .seq vs _ => if (o.cls == Value.type "list") = true then some (.frz o (.lst (vs.toList.map toV))) else some (.frz o (.tup (vs.toList.map toV)))
  | _ => none
def argH (K : PySem.W.Frag) (h : Heap) (A : List Addr) : Hp := fun b => if b ∈ A then (if (K.lookup b).isNone = true then (h.get? b).bind hoOf else none) else none
/-- nothing is tracked but what is known to the object -/
def OnlyF (H : Hp) : Prop := ∀ b, H b = none ∨ ∃ o u, H b = some (.frz o u)
theorem hoOf_lst (vs : List Value) : hoOf { cls := .type "list", data := .seq vs.toArray } = some (.frz { cls := .type "list", data := .seq vs.toArray } (.lst (vs.map toV))) := by
  show (if (Value.type "list" == Value.type "list") = true then some (HO.frz { cls := .type "list", data := .seq vs.toArray } (.lst (vs.toArray.toList.map toV))) else some (HO.frz { cls := .type "list", data := .seq vs.toArray } (.tup (vs.toArray.toList.map toV)))) = _
  rw [if_pos (beq_self_eq_true _)]
theorem hoOf_tup (vs : List Value) : hoOf { cls := .type "tuple", data := .seq vs.toArray } = some (.frz { cls := .type "tuple", data := .seq vs.toArray } (.tup (vs.map toV))) := by
  show (if (Value.type "tuple" == Value.type "list") = true then some (HO.frz { cls := .type "tuple", data := .seq vs.toArray } (.lst (vs.toArray.toList.map toV))) else some (HO.frz { cls := .type "tuple", data := .seq vs.toArray } (.tup (vs.toArray.toList.map toV)))) = _
  rw [if_neg (by decide)]
section
variable {P : Program} {w : World} {K : PySem.W.Frag} {h : Heap} {A : List Addr}
theorem argH_at {b : Addr} {o : Obj} (hb : b ∈ A) (hk : K.lookup b = none) (e : h.get? b = some o) : argH K h A b = hoOf o := by
  unfold argH
  rw [if_pos hb, hk, if_pos (show (none : Option Obj).isNone = true from rfl), e] <;> rfl
theorem of_argH {b : Addr} {u : HO} (q : argH K h A b = some u) : b ∈ A ∧ K.lookup b = none := by
  unfold argH at q
  by_cases hb : b ∈ A
  · rw [if_pos hb] at q
    cases hk : K.lookup b with
    | none => exact ⟨hb, rfl⟩
    | some o =>
      rw [hk, if_neg (by simp)] at q
      cases q
  · rw [if_neg hb] at q
    cases q
/-- what stands tracked -/
theorem argH_is (ar : ∀ a ∈ A, ArgOb h A a) {b : Addr} {u : HO} (q : argH K h A b = some u) : K.lookup b = none ∧ ∃ vs : List Value, vs.length ≤ sizeLine ∧ (∀ u ∈ vs, OkU A u) ∧
    ((h.get? b = some { cls := .type "list", data := .seq vs.toArray } ∧ u = .frz { cls := .type "list", data := .seq vs.toArray } (.lst (vs.map toV))) ∨
     (h.get? b = some { cls := .type "tuple", data := .seq vs.toArray } ∧ u = .frz { cls := .type "tuple", data := .seq vs.toArray } (.tup (vs.map toV)))) := by
  obtain ⟨hb, hk⟩ := of_argH q
  obtain ⟨vs, h1, h2, h3⟩ := ar b hb
  refine ⟨hk, vs, h1, h2, ?_⟩
  rcases h3 with e | e
  · rw [argH_at hb hk e, hoOf_lst] at q
    exact .inl ⟨e, (Option.some.inj q).symm⟩
  · rw [argH_at hb hk e, hoOf_tup] at q
    exact .inr ⟨e, (Option.some.inj q).symm⟩
theorem argH_only (ar : ∀ a ∈ A, ArgOb h A a) : OnlyF (argH K h A) := fun b => by
  cases q : argH K h A b with
  | none => exact .inl rfl
  | some u =>
    obtain ⟨_, vs, _, _, ⟨_, e⟩ | ⟨_, e⟩⟩ := argH_is ar q
    · exact .inr ⟨_, _, by rw [e]⟩
    · exact .inr ⟨_, _, by rw [e]⟩
theorem argH_ok (ar : ∀ a ∈ A, ArgOb h A a) : HOk P w (argH K h A) h := fun b u q => by
  obtain ⟨_, vs, h1, h2, ⟨e, rfl⟩ | ⟨e, rfl⟩⟩ := argH_is ar q
  · exact ⟨e, by rw [List.length_map]; exact h1, vs, _, vals_toV h2, e⟩
  · exact ⟨e, by rw [List.length_map]; exact h1, vs, vals_toV h2, _, e, rfl, _, rfl⟩
theorem seq_inj {c c' : Value} {vs us : List Value} (e : (some { cls := c, data := .seq vs.toArray } : Option Obj) = some { cls := c', data := .seq us.toArray }) : c = c' ∧ vs = us := by
  have e1 := Option.some.inj e
  have e2 : c = c' := congrArg Obj.cls e1
  have e3 : Data.seq vs.toArray = Data.seq us.toArray := congrArg Obj.data e1
  injection e3 with e4
  refine ⟨e2, ?_⟩
  have e5 := congrArg Array.toList e4
  simpa using e5
/-- a list argument -/
theorem argL (KX : K.In h) (ar : ∀ a ∈ A, ArgOb h A a) {a : Addr} {vs : List Value} (ha : a ∈ A) (e : h.get? a = some { cls := .type "list", data := .seq vs.toArray }) : (∀ u ∈ vs, OkU A u) ∧ SqL K (argH K h A) a (vs.map toV) := by
  obtain ⟨us, h1, h2, h3⟩ := ar a ha
  have hu : us = vs := by
    rcases h3 with q | q
    · rw [e] at q
      exact (seq_inj q).2.symm
    · rw [e] at q
      exact absurd (Value.type.inj (seq_inj q).1) (by decide)
  subst hu
  refine ⟨h2, ?_⟩
  cases hk : K.lookup a with
  | none => exact .inl (.inr ⟨_, by rw [argH_at ha hk e, hoOf_lst]⟩)
  | some o =>
    have e2 := KX a o hk
    rw [e] at e2
    obtain rfl := Option.some.inj e2
    exact .inr ⟨_, us.toArray, _, hk, rfl, rfl, rfl, by rw [List.size_toArray]; exact h1, by simpa using vals_toV h2⟩
theorem argT (KX : K.In h) (ar : ∀ a ∈ A, ArgOb h A a) {a : Addr} {vs : List Value} (ha : a ∈ A) (e : h.get? a = some { cls := .type "tuple", data := .seq vs.toArray }) : (∀ u ∈ vs, OkU A u) ∧ SqT K (argH K h A) a (vs.map toV) := by
  obtain ⟨us, h1, h2, h3⟩ := ar a ha
  have hu : us = vs := by
    rcases h3 with q | q
    · rw [e] at q
      exact absurd (Value.type.inj (seq_inj q).1) (by decide)
    · rw [e] at q
      exact (seq_inj q).2.symm
  subst hu
  refine ⟨h2, ?_⟩
  cases hk : K.lookup a with
  | none => exact .inl (.inr ⟨_, by rw [argH_at ha hk e, hoOf_tup]⟩)
  | some o =>
    have e2 := KX a o hk
    rw [e] at e2
    obtain rfl := Option.some.inj e2
    exact .inr ⟨_, us.toArray, _, hk, rfl, rfl, by rw [List.size_toArray]; exact h1, by simpa using vals_toV h2⟩
mutual
theorem dw_one {Pm : Params} (KX : K.In h) (ar : ∀ a ∈ A, ArgOb h A a) : ∀ (d : WData) (v : Value), Well Pm h v d → plW d = true → OkU A v → Dw K (argH K h A) (toV v) d
  | .none, _, x, _, _ => by
    cases x
    exact .non
  | .bool b, _, x, _, _ => by
    cases x
    exact .bl b
  | .int i, _, x, _, _ => by
    cases x
    exact .int i
  | .str s, _, x, _, _ => by
    cases x
    exact .str s
  | .bytes b, _, x, _, _ => by
    cases x
    have z := Dw.byt (K := K) (H := argH K h A) b.toArray
    exact z
  | .list ds, _, x, p, hu => by
    obtain ⟨a, vs, rfl, ho, hall⟩ := well_list x
    obtain ⟨h2, hs⟩ := argL KX ar hu ho
    exact .lst hs (dw_all KX ar ds _ hall p h2)
  | .tuple ds, _, x, p, hu => by
    obtain ⟨a, vs, rfl, ho, hall⟩ := well_tuple x
    obtain ⟨h2, hs⟩ := argT KX ar hu ho
    exact .tup hs (dw_all KX ar ds _ hall p h2)
  | .float _, _, _, p, _ => Bool.noConfusion (show false = true from p)
  | .dict _, _, _, p, _ => Bool.noConfusion (show false = true from p)
  | .bytearray _, _, _, p, _ => Bool.noConfusion (show false = true from p)
  | .set _, _, _, p, _ => Bool.noConfusion (show false = true from p)
  | .frozenset _, _, _, p, _ => Bool.noConfusion (show false = true from p)
  | .obj _ _, _, _, p, _ => Bool.noConfusion (show false = true from p)
theorem dw_all {Pm : Params} (KX : K.In h) (ar : ∀ a ∈ A, ArgOb h A a) : ∀ (ds : List WData) (vs : List Value), WellAll Pm h vs ds → plWs ds = true → (∀ u ∈ vs, OkU A u) → DwAll K (argH K h A) (vs.map toV) ds
  | [], _, x, _, _ => by
    cases x
    exact .nil
  | d :: ds, _, x, p, hu => by
    obtain ⟨v, vs, rfl, x1, x2⟩ := well_cons x
    have q : plW d = true ∧ plWs ds = true := Bool.and_eq_true_iff.mp p
    exact .cons (dw_one KX ar d v x1 q.1 (hu _ (List.mem_cons_self ..))) (dw_all KX ar ds vs x2 q.2 fun u m => hu u (List.mem_cons_of_mem _ m))
end
end
/-! ### the call -/
theorem spec_call {P : Program} {w : World} {K : PySem.W.Frag} {mg mb : Str → Option Value} {CX : CXT} {k : Nat} {fa : Addr} {fd : FuncData} {ps : List Str} {sp : Sp} {s₁ : Shared} {vals : List Value} {ds : List WData} {R : PySem.W.WRecords} {cl : Str → Option Addr} {d0 : WData}
    (KX : K.In s₁.heap) (hns : s₁.heap.Ns mainGlobals mg) (hb : s₁.heap.Ns builtinsNs mb) (hbb : ∀ x : Str, x ≠ "__name__" → mb x = bootBuiltins x) (hlim : s₁.heap.NoLimit) (hg : s₁.gens = #[])
    (hwl : WellAll w.params s₁.heap vals ds) (hpl : plWs ds = true) (hwt : ∀ d ∈ ds, d.weight ≤ 1048576) (hr : Room k callerA)
    (F : ∀ base : Heap, K.In base → base.Ns mainGlobals mg → FnOk P w K mg base CX k fa fd ps sp) (hbind : ∀ (s : Shared) (us : List Value), us.length = ps.length → BindsTo s fd ⟨us, []⟩ (ps.zip us)) (hlen : ds.length = ps.length)
    (hsp : ∀ (H : Hp) (xs : List V), OnlyF H → DwAll K H xs ds → sp xs H (fun v H' => Dw K H' v d0) fun _ _ _ => False)
    (hCX : ∀ H e s', CX [] H s₁ (fun _ _ _ => False) e s' → False) :
    codeAny (model P w) callerA (.call (.ref fa) ⟨vals, []⟩) (fun r s' => ∃ u as, r = .ok (.ret u) ∧ ReadsW R cl s'.heap u d0 as ∧ OldK s₁.heap s'.heap ∧ s'.os = s₁.os ∧ AllBare s'.gens) s₁ := by
  obtain ⟨A, ho, ar⟩ := area_all ds vals hwl hpl hwt
  have hO : OnlyF (argH K s₁.heap A) := argH_only ar
  have hok : HOk P w (argH K s₁.heap A) s₁.heap := argH_ok ar
  have hS := dw_all KX ar ds vals hwl hpl ho
  have hV := vals_toV ho
  have hK : ∀ b u, argH K s₁.heap A b = some u → K.lookup b = none := fun b u q => (argH_is ar q).1
  have noA : ∀ {b : Addr} {o : Obj} {es : Array DictEntry} {ep : Nat}, s₁.heap.get? b = some o → o.data = .dict es ep → argH K s₁.heap A b = none := fun {b o es ep} e d => by
    cases q : argH K s₁.heap A b with
    | none => rfl
    | some u =>
      obtain ⟨_, vs, _, _, ⟨e2, _⟩ | ⟨e2, _⟩⟩ := argH_is ar q
      · rw [e2] at e
        cases e
        have d' : Data.seq vs.toArray _ = Data.dict es ep := d
        cases d'
      · rw [e2] at e
        cases e
        have d' : Data.seq vs.toArray _ = Data.dict es ep := d
        cases d'
  generalize argH K s₁.heap A = H at hO hok hS hK noA
  have base_of : ∀ {b : Addr} {o : Obj}, s₁.heap.get? b = some o → H b = none → (hidT s₁.heap H).get? b = some o := fun e n => hidT_get e n
  have nsK : ∀ {b : Addr} {m : Str → Option Value}, s₁.heap.Ns b m → (hidT s₁.heap H).Ns b m := fun {b m} ⟨o, es, ep, e, d, r⟩ => ⟨o, es, ep, base_of e (noA e d), d, r⟩
  have nK : ∀ b o, K.lookup b = some o → H b = none := fun b o e => by
    cases q : H b with
    | none => rfl
    | some u =>
      rw [hK b u q] at e
      cases e
  have hKb : K.In (hidT s₁.heap H) := fun b o e => base_of (KX b o e) (nK b o e)
  have hM : Mod K mg (hidT s₁.heap H) := ⟨hKb, nsK hns, ⟨mb, nsK hb, hbb⟩, let ⟨mc, h1, h2⟩ := hlim; ⟨mc, nsK h1, h2⟩⟩
  have e0 : Env0 P w K mg (hidT s₁.heap H) callerA [] s₁ H := ⟨rfl, hM, fun b o e => of_hidT e, Nat.le_of_eq (hidT_size _ _), trivial, fun b hb => absurd (show b ∈ ([] : List Addr) from hb) (by simp), hok, .of_eq hg⟩
  have hl : vals.length = ps.length := by rw [wellAll_len hwl]; exact hlen
  refine codeAny_mono ((F _ hKb (nsK hns)).run callerA [] s₁ H ⟨vals, []⟩ vals (vals.map toV) _ _ hr e0 (hbind s₁ vals hl) hV (hsp H _ hO hS)) fun r s' x => ?_
  cases r with
  | error e => exact (hCX H e s' x).elim
  | ok fl =>
    cases fl with
    | next => exact False.elim x
    | brk => exact False.elim x
    | cont => exact False.elim x
    | ret u =>
      obtain ⟨v, H', os, bare, un, hok', r', q⟩ := x
      have kept : ∀ b o, s₁.heap.get? b = some o → s'.heap.get? b = some o := fun b o e => by
        cases q2 : H b with
        | none => exact un.keep b o e q2 (by intro z; exact absurd (show b ∈ ([] : List Addr) from z) (by simp)) (by simp)
        | some u2 =>
          rcases hO b with z | ⟨ob, u3, z⟩
          · rw [q2] at z
            cases z
          · have z2 := un.frzs b ob _ z
            obtain ⟨e1, _⟩ := hok b _ z
            obtain ⟨e2, _⟩ := hok' b _ z2
            rw [e] at e1
            cases e1
            exact e2
      have KX' : K.In s'.heap := fun b o e => kept b o (KX b o e)
      obtain ⟨as, hrd⟩ := Dw.reads (R := R) (cl := cl) hok' KX' d0 v u q r'
      exact ⟨u, as, rfl, hrd, OldK.of_keep kept, os, bare⟩
/-! ### the row -/
theorem layable_weight {ds : List WData} (h : WData.layableAll ds = true) : ∀ d ∈ ds, d.weight ≤ 1048576 := fun d hd =>
  (PySem.W.layableW_iff.mp (List.all_eq_true.mp h d hd)).2.2
theorem encAll_len : ∀ (cs : List Codec) (a : Codec.denoteAll cs), (Codec.encAll cs a).length = cs.length
  | [], _ => rfl
  | c :: cs, a => by
    show (Codec.encAll cs a.2).length + 1 = cs.length + 1
    rw [encAll_len cs a.2]
/-- the goal that k_headS leaves (case hc), from the promise of the row's def: whatever the arguments that the codecs let and the row asks for, the def gives what stands for enc (f ..) -/
theorem walk_spec {r : OpenSpec} {k : Nat} {q : Program} {loose : List Str} {XP : (Str → Option Value) → Heap → Prop} {YP : World → Heap → Prop} {d : DefRec} {K : Params → PySem.W.Frag} {CX : World → CXT} {ps : List Str} {sp : World → Sp}
    (hwell : r.wellSaid = true) (hdf : d.params.defaults = []) (hlen : r.args.length = ps.length) (hr : Room k callerA)
    (hY : ∀ (w : World) (h : Heap), YP w h → (K w.params).In h)
    (F : ∀ (w : World) (mg : Str → Option Value) (fa : Addr) (h : Heap), YP w h → (K w.params).In h → h.Ns mainGlobals mg → mg d.name = some (.ref fa) →
      ∃ fd : FuncData, (∀ (s : Shared) (us : List Value), us.length = ps.length → BindsTo s fd ⟨us, []⟩ (ps.zip us)) ∧
        ∀ base : Heap, (K w.params).In base → base.Ns mainGlobals mg → FnOk r.prog w (K w.params) mg base (CX w) k fa fd ps (sp w))
    (hsp : ∀ (w : World) (H : Hp) (xs : List V) (a : Codec.denoteAll r.args), OnlyF H → Codec.withinAll r.args a = true → Codec.app r.args r.asked a = true → DwAll (K w.params) H xs (Codec.encAll r.args a) →
      sp w xs H (fun v H' => Dw (K w.params) H' v (r.ret.enc (Codec.app r.args r.f a))) fun _ _ _ => False)
    (hCX : ∀ (w : World) (H : Hp) (s : Shared) (e : Value) (s' : Shared), CX w [] H s (fun _ _ _ => False) e s' → False) :
    PySem.W.WalkOS q loose XP YP r d [] (fun f vs => PySem.call f vs) := by
  intro w s_0 s₁ mg mb G Y fa o pm cd doc dV kV ho hd hcd hD hmg hg args vals as hpre hlay hrd hwl hlo
  obtain ⟨a, e1, e2⟩ := PySem.W.os_pre_some hpre
  obtain ⟨e3, hwi⟩ := Codec.encAll_of_decAll r.args args a e1
  subst e3
  have KX := hY w _ Y
  obtain ⟨fd, hb, hF⟩ := F w mg fa _ Y KX G.T.g hmg
  refine PySem.W.enter_call (codeAny_mono (spec_call (R := []) (cl := classAt s_0.heap) (d0 := r.ret.enc (Codec.app r.args r.f a)) KX G.T.g G.T.b G.T.builtins G.T.nolimit hg hwl (pl_encAll _ _) (layable_weight hlay) hr hF hb (by rw [encAll_len]; exact hlen)
    (fun H xs hO hS => hsp w H xs a hO hwi e2 hS) fun H e s' => hCX w H s₁ e s') fun r' s' hq => ?_)
  obtain ⟨u, as', rfl, h1, h2, h3, h4⟩ := hq
  exact ⟨.inl ⟨u, _, as', rfl, fun _ => rfl, h1, (OpenSpec.post_iff hwell hwi _ _).mpr rfl, fun z => Bool.noConfusion (show false = true from z)⟩, h2, h3, h4⟩
/-- the same where the promise hangs on the written part alone -/
theorem walk_specK {r : OpenSpec} {k : Nat} {q : Program} {loose : List Str} {XP : (Str → Option Value) → Heap → Prop} {YP : World → Heap → Prop} {d : DefRec} {K : Params → PySem.W.Frag} {CX : CXT} {ps : List Str} {sp : PySem.W.Frag → Sp}
    (hwell : r.wellSaid = true) (hdf : d.params.defaults = []) (hlen : r.args.length = ps.length) (hr : Room k callerA)
    (hY : ∀ (w : World) (h : Heap), YP w h → (K w.params).In h)
    (F : ∀ (w : World) (mg : Str → Option Value) (fa : Addr) (h : Heap), YP w h → (K w.params).In h → h.Ns mainGlobals mg → mg d.name = some (.ref fa) →
      ∃ fd : FuncData, (∀ (s : Shared) (us : List Value), us.length = ps.length → BindsTo s fd ⟨us, []⟩ (ps.zip us)) ∧
        ∀ base : Heap, (K w.params).In base → base.Ns mainGlobals mg → FnOk r.prog w (K w.params) mg base CX k fa fd ps (sp (K w.params)))
    (hsp : ∀ (K : PySem.W.Frag) (H : Hp) (xs : List V) (a : Codec.denoteAll r.args), OnlyF H → Codec.withinAll r.args a = true → Codec.app r.args r.asked a = true → DwAll K H xs (Codec.encAll r.args a) →
      sp K xs H (fun v H' => Dw K H' v (r.ret.enc (Codec.app r.args r.f a))) fun _ _ _ => False)
    (hCX : ∀ (H : Hp) (s : Shared) (e : Value) (s' : Shared), CX [] H s (fun _ _ _ => False) e s' → False) :
    PySem.W.WalkOS q loose XP YP r d [] (fun f vs => PySem.call f vs) :=
  walk_spec (K := K) (CX := fun _ => CX) (sp := fun w => sp (K w.params)) hwell hdf hlen hr hY F (fun w H xs a h1 h2 h3 h4 => hsp (K w.params) H xs a h1 h2 h3 h4) fun _ H s e s' => hCX H s e s'
end L2
-- rests on (row put in by the clerk, for the bench that shows a file only what it spells): KE.SpHead KE.OsShapes
end
section
set_option Elab.async false
set_option linter.all false
/-! The program's state and its defs as plain functions, and that they do what the specification does. -/
namespace Bt
open Sa67 (toOf sends subOf countOf many mode toAll onWire gone St Phase)

structure Mir where
  address : Nat
  flags : Nat
  allowed : List (List Nat)
  given : List (List Nat)
  got : List (List Nat)
  messages : Nat
  errors : Nat
  lastCommand : Nat
  lastStatus : Nat
  step : Nat
  error : Nat
  toAll : Nat
  off : Nat
  hushed : Nat
  toSend : List Nat
  awaited : Nat
  command : Nat
  heardAt : Nat
  sender : Nat
  taken : List Nat

def bitOf (n k : Nat) : Nat := n / 2 ^ k % 2
def drop (M : Mir) : Mir := { M with awaited := 0, command := 0, heardAt := 0, sender := 0, taken := [] }
def begun (a : Nat) : Mir := ⟨a, 0, [List.replicate 32 4294967295, List.replicate 32 4294967295, List.replicate 32 4294967295, [511], [4128768]], List.replicate 32 [], List.replicate 32 [], 0, 0, 0, 0, 0, 0, 0, 0, 0, [], 0, 0, 0, 0, []⟩
def countError (M : Mir) : Mir := { M with error := 1, errors := (M.errors + 1) % 65536 }
def fail (M : Mir) : Mir := drop (countError M)
def busy (M : Mir) : Bool := M.flags.testBit 0
def fault (M : Mir) : Nat := if M.hushed = 1 then 0 else bitOf M.flags 3
def statusOf (M : Mir) (ctl : Nat) : Nat := M.address * 2048 + M.error * 1024 + bitOf M.flags 1 * 256 + M.toAll * 16 + bitOf M.flags 0 * 8 + bitOf M.flags 2 * 4 + ctl * 2 + fault M
def send (M : Mir) (status : Nat) (data : List Nat) : Mir := { M with lastStatus := status, toSend := onWire 0 status :: data.map (onWire 1) }
def reply (M : Mir) (c : Nat) (data : List Nat) : Mir := if toAll c = true then M else send M (statusOf M 0) data
def replyError (M : Mir) (c : Nat) : Mir := reply { M with error := 1 } c []
def modeAllowed (M : Mir) (code : Nat) : Bool := ((M.allowed.getD (if code < 16 then 3 else 4) []).getD 0 0).testBit code
def asksBefore (c : Nat) : Bool := mode c && (!toAll c && (countOf c == 2 || countOf c == 18))
def sendsWord (c : Nat) : Bool := sends c && (countOf c == 16 || countOf c == 18 || countOf c == 19)
def takesWord (c : Nat) : Bool := !sends c && (countOf c == 17 || countOf c == 20 || countOf c == 21)
def lowInOrder (M : Mir) (c : Nat) : Bool := if (toAll c && (countOf c == 0 || countOf c == 2)) = true then false else sends c && modeAllowed M (countOf c)
def changeLow (M : Mir) (k : Nat) : Mir :=
  let M1 : Mir := if k = 1 then { M with step := 0 } else M
  let M2 : Mir := if k = 4 then { M1 with off := 1 } else M1
  let M3 : Mir := if k = 5 ∨ k = 8 then { M2 with off := 0 } else M2
  let M4 : Mir := if k = 6 then { M3 with hushed := 1 } else M3
  if k = 7 ∨ k = 8 then { M4 with hushed := 0 } else M4
def doLow (M : Mir) (c : Nat) : Mir :=
  if lowInOrder M c = false then replyError M c
  else if countOf c = 2 then send M M.lastStatus []
  else if countOf c = 0 then send M (statusOf M (if M.flags.testBit 4 = true then 1 else 0)) []
  else reply (changeLow M (countOf c)) c []
def firstGiven (M : Mir) (sub : Nat) : Nat := (M.given.getD sub []).headD 0
def doSending (M : Mir) (c : Nat) : Mir :=
  if (toAll c || !modeAllowed M (countOf c)) = true then replyError M c
  else if countOf c = 18 then reply M c [M.lastCommand]
  else if busy M = true then reply M c []
  else reply M c [firstGiven M (if countOf c = 16 then 0 else 31)]
def doMode (M : Mir) (c : Nat) : Mir :=
  if countOf c < 16 then doLow M c else if sendsWord c = true then doSending M c else replyError M c
def takeMode (M : Mir) (c w : Nat) : Mir :=
  if modeAllowed M (countOf c) = false then { M with error := 1 } else if countOf c = 17 then { M with step := w } else if w = 1 then { M with off := if countOf c = 20 then 1 else 0 } else M
def finishTaking (M : Mir) (c w : Nat) : Mir := reply (takeMode M c w) c []
def isAllowed (M : Mir) (what c : Nat) : Bool := ((M.allowed.getD what []).getD (subOf c) 0).testBit (countOf c)
def wordsTo (M : Mir) (c : Nat) : List Nat := (M.given.getD (subOf c) []).take (many c) ++ List.replicate (many c - ((M.given.getD (subOf c) []).take (many c)).length) 0
def transmit (M : Mir) (c : Nat) : Mir :=
  if toAll c = true then countError M
  else if isAllowed M 1 c = false then replyError M c
  else if busy M = true then reply M c []
  else reply M c (wordsTo M c)
def awaitWords (M : Mir) (c aw now : Nat) : Mir := { M with awaited := aw, command := c, heardAt := now }
def noted (M : Mir) (c : Nat) : Mir := if asksBefore c = false then { M with lastCommand := c, error := 0, toAll := if toAll c = true then 1 else 0 } else M
def beginCommand (M : Mir) (c now : Nat) : Mir :=
  let M1 := noted (drop M) c
  if (mode c && takesWord c) = true then awaitWords M1 c 3 now
  else if mode c = true then doMode M1 c
  else if sends c = true then transmit M1 c
  else awaitWords M1 c 1 now
def whatTo (c : Nat) : Nat := if toAll c = true then 2 else 0
def receive (M : Mir) (c : Nat) (ws : List Nat) : Mir :=
  if isAllowed M (whatTo c) c = false then { M with error := 1 }
  else if busy M = false then { M with got := M.got.set (subOf c) ws, messages := (M.messages + 1) % 65536 }
  else M
def finishReceiving (M : Mir) (c : Nat) (ws : List Nat) : Mir := reply (receive M c ws) c []
def finishIfAll (M : Mir) : Mir :=
  if mode M.command = true then finishTaking (drop M) M.command (M.taken.headD 0)
  else if M.taken.length = many M.command then finishReceiving (drop M) M.command M.taken
  else M
def hearData (M : Mir) (w now : Nat) : Mir :=
  if M.awaited = 2 then fail M else finishIfAll { M with taken := M.taken ++ [w], awaited := 3, heardAt := now }
def hearOther (M : Mir) (w now : Nat) : Mir :=
  if M.awaited = 1 ∧ sends w = true then { M with sender := toOf w, awaited := 2, heardAt := now }
  else if M.awaited = 2 ∧ toOf w = M.sender then { M with awaited := 3, heardAt := now }
  else fail M
def hearAwaited (M : Mir) (sync w : Nat) (good : Bool) (now : Nat) : Mir :=
  if good = false ∨ gone M.heardAt now < 20 then fail M
  else if sync = 1 then hearData M w now
  else hearOther M w now
def longest (M : Mir) : Nat := if M.awaited = 2 then 57 else 23
def silence (M : Mir) (now : Nat) : Mir := if M.awaited ≠ 0 ∧ longest M < gone M.heardAt now then fail M else M
def isFor (M : Mir) (w : Nat) : Bool := toAll w || toOf w == M.address
def hear (M : Mir) (sync w : Nat) (good : Bool) (now : Nat) : Mir :=
  let M1 := silence M now
  if good = true ∧ sync = 0 ∧ isFor M1 w = true then beginCommand M1 w now
  else if M1.awaited ≠ 0 then hearAwaited M1 sync w good now
  else M1

/-! ### the specification's state -/
def phaseOf (M : Mir) : Phase :=
  if M.awaited = 0 then .idle
  else if M.awaited = 1 then .data M.command (many M.command) [] M.heardAt true
  else if M.awaited = 2 then .status M.command M.sender (many M.command) M.heardAt
  else if mode M.command = true then .word M.command M.heardAt
  else .data M.command (many M.command) M.taken M.heardAt false
def allowOf (a : List (List Nat)) : List (List Nat) :=
  [a.getD 0 [], a.getD 1 [], a.getD 2 [], (a.getD 3 []).getD 0 0 :: List.replicate 31 511, (a.getD 4 []).getD 0 0 :: List.replicate 31 4128768]
def abs (M : Mir) : St :=
  { address := M.address, flags := M.flags, allow := allowOf M.allowed, given := M.given, got := M.got, phase := phaseOf M,
    error := M.error == 1, all := M.toAll == 1, lastCmd := M.lastCommand, lastStatus := M.lastStatus, step := M.step,
    off := M.off == 1, hushed := M.hushed == 1, messages := M.messages, errors := M.errors, out := M.toSend }

/-- bounds that every statement keeps -/
structure Wf (M : Mir) : Prop where
  ad : M.address ≤ 30
  fl : M.flags ≤ 31
  al : M.allowed.length = 5
  al0 : ∀ i, i < 3 → (M.allowed.getD i []).length = 32
  al3 : ∀ i, 3 ≤ i → i < 5 → (M.allowed.getD i []).length = 1
  gi : M.given.length = 32
  gis : ∀ i, (M.given.getD i []).length ≤ 32 ∧ ∀ x ∈ M.given.getD i [], x < 65536
  go : M.got.length = 32
  gos : ∀ i, (M.got.getD i []).length ≤ 32
  er : M.error ≤ 1
  ta : M.toAll ≤ 1
  of : M.off ≤ 1
  hu : M.hushed ≤ 1
  lc : M.lastCommand < 65536
  ls : M.lastStatus < 65536
  se : M.toSend.length ≤ 33
  ha : M.heardAt < 4294967296
  tk : M.taken.length ≤ 32
/-- what holds between two calls -/
structure Ph (M : Mir) : Prop where
  aw : M.awaited ≤ 3
  p0 : M.awaited = 0 → M.taken = []
  p1 : M.awaited = 1 → mode M.command = false ∧ M.taken = []
  p2 : M.awaited = 2 → mode M.command = false ∧ M.taken = [] ∧ M.sender ≠ M.address ∧ M.sender ≠ 31
  p3 : M.awaited = 3 → (mode M.command = true → M.taken = [] ∧ ¬ countOf M.command < 16) ∧ (mode M.command = false → M.taken.length < many M.command)

/-! ### the parts agree -/
theorem tb_eq (n k : Nat) : n.testBit k = decide (bitOf n k = 1) := by
  unfold bitOf
  exact Nat.testBit_eq_decide_div_mod_eq
theorem bitOf_le (n k : Nat) : bitOf n k ≤ 1 := by unfold bitOf; omega
theorem bit_of (n k j : Nat) : Sa67.bit (n.testBit k) j = bitOf n k * 2 ^ j := by
  have h := bitOf_le n k
  rw [tb_eq]
  unfold Sa67.bit
  by_cases e : bitOf n k = 1
  · simp [e]
  · have e0 : bitOf n k = 0 := by omega
    simp [e0]
theorem bit_one {n : Nat} (h : n ≤ 1) (j : Nat) : Sa67.bit (n == 1) j = n * 2 ^ j := by
  have : n = 0 ∨ n = 1 := by omega
  rcases this with rfl | rfl <;> simp [Sa67.bit]
theorem abs_status {M : Mir} (w : Wf M) (t : Bool) : Sa67.statusOf (abs M) t = statusOf M (if t = true then 1 else 0) := by
  have h1 := bit_one w.er 10
  have h2 := bit_of M.flags 1 8
  have h3 := bit_one w.ta 4
  have h4 := bit_of M.flags 0 3
  have h5 := bit_of M.flags 2 2
  have h6 : Sa67.bit t 1 = (if t = true then 1 else 0) * 2 ^ 1 := by cases t <;> simp [Sa67.bit]
  have h7 : Sa67.bit (M.flags.testBit 3 && !(M.hushed == 1)) 0 = fault M := by
    unfold fault
    have := bit_of M.flags 3 0
    by_cases e : M.hushed = 1
    · simp [e, Sa67.bit]
    · have e' : (M.hushed == 1) = false := by simp [e]
      rw [e', if_neg e, Bool.not_false, Bool.and_true, this]
      omega
  show M.address * 2048 + Sa67.bit (M.error == 1) 10 + Sa67.bit (M.flags.testBit 1) 8 + Sa67.bit (M.toAll == 1) 4 + Sa67.bit (M.flags.testBit 0) 3 + Sa67.bit (M.flags.testBit 2) 2 + Sa67.bit t 1 + Sa67.bit (M.flags.testBit 3 && !(M.hushed == 1)) 0 = _
  rw [h1, h2, h3, h4, h5, h6, h7]
  unfold statusOf
  omega
theorem status_lt {M : Mir} (w : Wf M) {t : Nat} (ht : t ≤ 1) : statusOf M t < 65536 := by
  have h1 := w.ad
  have h2 := w.er
  have h3 := w.ta
  have a1 := bitOf_le M.flags 1
  have a0 := bitOf_le M.flags 0
  have a2 := bitOf_le M.flags 2
  have a3 : fault M ≤ 1 := by
    unfold fault
    split
    · omega
    · exact bitOf_le _ _
  unfold statusOf
  omega
theorem abs_send (M : Mir) (st : Nat) (l : List Nat) : abs (send M st l) = (abs M).answer st l := rfl
theorem abs_reply {M : Mir} (w : Wf M) (c : Nat) (l : List Nat) : abs (reply M c l) = (abs M).reply c l := by
  unfold reply St.reply
  split
  · rfl
  · rw [abs_send, abs_status w false]
    rfl
theorem abs_wrong (M : Mir) : abs { M with error := 1 } = Sa67.wrong (abs M) := rfl
theorem Wf.err {M : Mir} (w : Wf M) : Wf { M with error := 1 } := { w with er := Nat.le_refl _ }
theorem abs_replyError {M : Mir} (w : Wf M) (c : Nat) : abs (replyError M c) = (Sa67.wrong (abs M)).reply c [] := by
  unfold replyError
  rw [abs_reply w.err]
  rfl
theorem abs_countError (M : Mir) : abs (countError M) = { abs M with error := true, errors := (M.errors + 1) % 65536 } := rfl
theorem abs_fail (M : Mir) : abs (fail M) = (abs M).fault := rfl
theorem abs_drop (M : Mir) : abs (drop M) = { abs M with phase := .idle } := rfl
theorem abs_busy (M : Mir) : Sa67.busy (abs M) = busy M := rfl
theorem allow_low (M : Mir) {k : Nat} (h : k < 16) : Sa67.allowed (abs M) 3 0 k = modeAllowed M k := by
  unfold modeAllowed
  rw [if_pos h]
  rfl
theorem allow_high (M : Mir) {k : Nat} (h : ¬ k < 16) : Sa67.allowed (abs M) 4 0 k = modeAllowed M k := by
  unfold modeAllowed
  rw [if_neg h]
  rfl
theorem allow_sub (M : Mir) {what c : Nat} (h : what < 3) : Sa67.allowed (abs M) what (subOf c) (countOf c) = isAllowed M what c := by
  have : what = 0 ∨ what = 1 ∨ what = 2 := by omega
  rcases this with rfl | rfl | rfl <;> rfl

/-! ### bounds are kept -/
theorem Wf.drop {M : Mir} (w : Wf M) : Wf (drop M) := { w with ha := by show 0 < _; omega, tk := Nat.zero_le _ }
theorem Wf.countError {M : Mir} (w : Wf M) : Wf (countError M) := { w with er := Nat.le_refl _ }
theorem Wf.fail {M : Mir} (w : Wf M) : Wf (fail M) := w.countError.drop
theorem Wf.send {M : Mir} (w : Wf M) {st : Nat} {l : List Nat} (h : st < 65536) (hl : l.length ≤ 32) : Wf (send M st l) :=
  { w with ls := h, se := by show (onWire 0 st :: l.map (onWire 1)).length ≤ 33; rw [List.length_cons, List.length_map]; omega }
theorem Wf.reply {M : Mir} (w : Wf M) (c : Nat) {l : List Nat} (hl : l.length ≤ 32) : Wf (reply M c l) := by
  unfold Bt.reply
  split
  · exact w
  · exact w.send (status_lt w (by omega)) hl
theorem Wf.replyError {M : Mir} (w : Wf M) (c : Nat) : Wf (replyError M c) := w.err.reply c (Nat.zero_le _)
theorem Wf.changeLow {M : Mir} (w : Wf M) (k : Nat) : Wf (changeLow M k) := by
  unfold Bt.changeLow
  by_cases h1 : k = 1
  · subst h1; exact { w with }
  by_cases h4 : k = 4
  · subst h4; exact { w with of := Nat.le_refl _ }
  by_cases h5 : k = 5
  · subst h5; exact { w with of := Nat.zero_le _ }
  by_cases h6 : k = 6
  · subst h6; exact { w with hu := Nat.le_refl _ }
  by_cases h7 : k = 7
  · subst h7; exact { w with hu := Nat.zero_le _ }
  by_cases h8 : k = 8
  · subst h8; exact { w with of := Nat.zero_le _, hu := Nat.zero_le _ }
  · simp only [h1, h4, h5, h6, h7, h8, if_false, or_self]
    exact w
theorem Wf.doLow {M : Mir} (w : Wf M) (c : Nat) : Wf (doLow M c) := by
  unfold Bt.doLow
  split
  · exact w.replyError c
  split
  · exact w.send w.ls (Nat.zero_le _)
  split
  · exact w.send (status_lt w (by split <;> omega)) (Nat.zero_le _)
  · exact (w.changeLow _).reply c (Nat.zero_le _)
theorem Wf.doSending {M : Mir} (w : Wf M) (c : Nat) : Wf (doSending M c) := by
  unfold Bt.doSending
  split
  · exact w.replyError c
  split
  · exact w.reply c (by show 1 ≤ 32; omega)
  split
  · exact w.reply c (Nat.zero_le _)
  · exact w.reply c (by show 1 ≤ 32; omega)
theorem Wf.doMode {M : Mir} (w : Wf M) (c : Nat) : Wf (doMode M c) := by
  unfold Bt.doMode
  split
  · exact w.doLow c
  split
  · exact w.doSending c
  · exact w.replyError c
theorem Wf.takeMode {M : Mir} (w : Wf M) (c v : Nat) : Wf (takeMode M c v) := by
  unfold Bt.takeMode
  split
  · exact w.err
  split
  · exact { w with }
  split
  · exact { w with of := by show (if _ then 1 else 0) ≤ 1; split <;> omega }
  · exact w
theorem many_le (c : Nat) : many c ≤ 32 := by
  unfold many countOf
  split <;> omega
theorem many_pos (c : Nat) : 1 ≤ many c := by
  unfold many
  split <;> omega
theorem wordsTo_len (M : Mir) (c : Nat) : (wordsTo M c).length = many c := by
  unfold wordsTo
  rw [List.length_append, List.length_replicate, List.length_take]
  omega
theorem Wf.transmit {M : Mir} (w : Wf M) (c : Nat) : Wf (transmit M c) := by
  unfold Bt.transmit
  split
  · exact w.countError
  split
  · exact w.replyError c
  split
  · exact w.reply c (Nat.zero_le _)
  · exact w.reply c (by rw [wordsTo_len]; exact many_le c)
theorem Wf.noted {M : Mir} (w : Wf M) {c : Nat} (h : c < 65536) : Wf (noted M c) := by
  unfold Bt.noted
  split
  · exact { w with lc := h, er := Nat.zero_le _, ta := by show (if _ then 1 else 0) ≤ 1; split <;> omega }
  · exact w
theorem Wf.awaitWords {M : Mir} (w : Wf M) (c aw : Nat) {now : Nat} (h : now < 4294967296) : Wf (awaitWords M c aw now) := { w with ha := h }
theorem Wf.beginCommand {M : Mir} (w : Wf M) {c now : Nat} (h : c < 65536) (hn : now < 4294967296) : Wf (beginCommand M c now) := by
  have w1 := w.drop.noted h
  unfold Bt.beginCommand
  split
  · exact w1.awaitWords c 3 hn
  split
  · exact w1.doMode c
  split
  · exact w1.transmit c
  · exact w1.awaitWords c 1 hn
theorem getD_set {α : Type} (l : List α) (k i : Nat) (x d : α) : (l.set k x).getD i d = if i = k ∧ k < l.length then x else l.getD i d := by
  rw [List.getD_eq_getElem?_getD, List.getD_eq_getElem?_getD, List.getElem?_set]
  by_cases e : k = i
  · subst e
    by_cases h : k < l.length
    · simp [h]
    · simp [h]
  · have e' : ¬ i = k := fun q => e q.symm
    simp [e, e']
theorem Wf.receive {M : Mir} (w : Wf M) (c : Nat) {ws : List Nat} (h : ws.length ≤ 32) : Wf (receive M c ws) := by
  unfold Bt.receive
  split
  · exact w.err
  split
  · refine { w with go := by show (M.got.set _ _).length = 32; rw [List.length_set]; exact w.go, gos := fun i => ?_ }
    show ((M.got.set _ _).getD i []).length ≤ 32
    rw [getD_set]
    split
    · exact h
    · exact w.gos i
  · exact w
theorem Wf.finishIfAll {M : Mir} (w : Wf M) : Wf (finishIfAll M) := by
  unfold Bt.finishIfAll
  split
  · exact (w.drop.takeMode _ _).reply _ (Nat.zero_le _)
  split
  · exact (w.drop.receive _ w.tk).reply _ (Nat.zero_le _)
  · exact w
theorem Wf.hearData {M : Mir} (w : Wf M) (v : Nat) {now : Nat} (hn : now < 4294967296) (ht : M.taken.length < 32) : Wf (hearData M v now) := by
  unfold Bt.hearData
  split
  · exact w.fail
  · refine Wf.finishIfAll { w with ha := hn, tk := ?_ }
    show (M.taken ++ [v]).length ≤ 32
    rw [List.length_append]
    show M.taken.length + 1 ≤ 32
    omega
theorem Wf.hearOther {M : Mir} (w : Wf M) (v : Nat) {now : Nat} (hn : now < 4294967296) : Wf (hearOther M v now) := by
  unfold Bt.hearOther
  split
  · exact { w with ha := hn }
  split
  · exact { w with ha := hn }
  · exact w.fail
theorem Wf.hearAwaited {M : Mir} (w : Wf M) (sync v : Nat) (good : Bool) {now : Nat} (hn : now < 4294967296) (ht : M.taken.length < 32) : Wf (hearAwaited M sync v good now) := by
  unfold Bt.hearAwaited
  split
  · exact w.fail
  split
  · exact w.hearData v hn ht
  · exact w.hearOther v hn
theorem Wf.silence {M : Mir} (w : Wf M) (now : Nat) : Wf (silence M now) := by
  unfold Bt.silence
  split
  · exact w.fail
  · exact w
theorem Ph.idle {M : Mir} (h : M.awaited = 0) (ht : M.taken = []) : Ph M :=
  ⟨by omega, fun _ => ht, fun e => by omega, fun e => by omega, fun e => by omega⟩
theorem Ph.silence {M : Mir} (p : Ph M) (now : Nat) : Ph (silence M now) := by
  unfold Bt.silence
  split
  · exact .idle rfl rfl
  · exact p
theorem Ph.short {M : Mir} (p : Ph M) : M.taken.length < 32 := by
  have h := p.aw
  have h4 : M.awaited = 0 ∨ M.awaited = 1 ∨ M.awaited = 2 ∨ M.awaited = 3 := by omega
  rcases h4 with e | e | e | e
  · rw [p.p0 e]; decide
  · rw [(p.p1 e).2]; decide
  · rw [(p.p2 e).2.1]; decide
  · have q := p.p3 e
    cases m : mode M.command with
    | true => rw [(q.1 m).1]; decide
    | false =>
      have := q.2 m
      have := many_le M.command
      omega
theorem Wf.hear {M : Mir} (w : Wf M) (p : Ph M) {sync v : Nat} (good : Bool) {now : Nat} (hv : v < 65536) (hn : now < 4294967296) : Wf (hear M sync v good now) := by
  have w1 := w.silence now
  unfold Bt.hear
  dsimp only
  split
  · exact w1.beginCommand hv hn
  split
  · exact w1.hearAwaited sync v good hn (p.silence now).short
  · exact w1

/-! ### what the specification does -/
theorem abs_changeLow (M : Mir) (k : Nat) : abs (changeLow M k) = (if k = 1 then { abs M with step := 0 } else if k = 4 then { abs M with off := true } else if k = 5 then { abs M with off := false } else if k = 6 then { abs M with hushed := true } else if k = 7 then { abs M with hushed := false } else if k = 8 then { abs M with off := false, hushed := false } else abs M) := by
  by_cases h1 : k = 1
  · subst h1; rfl
  by_cases h4 : k = 4
  · subst h4; rfl
  by_cases h5 : k = 5
  · subst h5; rfl
  by_cases h6 : k = 6
  · subst h6; rfl
  by_cases h7 : k = 7
  · subst h7; rfl
  by_cases h8 : k = 8
  · subst h8; rfl
  · unfold changeLow
    simp only [h1, h4, h5, h6, h7, h8, if_false, or_self]
theorem abs_doLow {M : Mir} (w : Wf M) {c : Nat} (h : countOf c < 16) : abs (doLow M c) = Sa67.simple (abs M) c := by
  unfold doLow Sa67.simple
  dsimp only
  rw [allow_low M h]
  have e : (lowInOrder M c = false) ↔ (sends c = false ∨ modeAllowed M (countOf c) = false ∨ (toAll c = true ∧ (countOf c = 0 ∨ countOf c = 2))) := by
    unfold lowInOrder
    by_cases k0 : countOf c = 0
    · rw [k0]
      cases sends c <;> cases modeAllowed M 0 <;> cases toAll c <;> simp
    by_cases k2 : countOf c = 2
    · rw [k2]
      cases sends c <;> cases modeAllowed M 2 <;> cases toAll c <;> simp
    · have h0 : (countOf c == 0) = false := by simp [k0]
      have h2 : (countOf c == 2) = false := by simp [k2]
      rw [h0, h2]
      cases sends c <;> cases modeAllowed M (countOf c) <;> cases toAll c <;> simp [k0, k2]
  by_cases q : lowInOrder M c = false
  · rw [if_pos q, if_pos (e.mp q)]
    exact abs_replyError w c
  · rw [if_neg q, if_neg (fun z => q (e.mpr z))]
    by_cases h2 : countOf c = 2
    · rw [if_pos h2, if_pos h2]
      rfl
    · rw [if_neg h2, if_neg h2]
      by_cases h0 : countOf c = 0
      · rw [if_pos h0, if_pos h0, abs_send, show (abs M).flags = M.flags from rfl, abs_status w]
      · rw [if_neg h0, if_neg h0, abs_reply (w.changeLow _), abs_changeLow]
theorem abs_high {M : Mir} (w : Wf M) {c now : Nat} (h : ¬ countOf c < 16) (m : mode c = true) (idle : M.awaited = 0) (tk : M.taken = []) (sd : M.sender = 0) :
    abs (if takesWord c = true then awaitWords M c 3 now else if sendsWord c = true then doSending M c else replyError M c) = Sa67.withWord (abs M) c now := by
  unfold Sa67.withWord
  dsimp only
  rw [allow_high M h, abs_busy]
  by_cases hs : sends c = true
  · have ht : takesWord c = false := by unfold takesWord; rw [hs]; rfl
    rw [ht, if_neg Bool.false_ne_true]
    have e : sendsWord c = true ↔ (countOf c = 16 ∨ countOf c = 18 ∨ countOf c = 19) := by
      unfold sendsWord
      rw [hs]
      simp [or_assoc]
    by_cases hk : countOf c = 16 ∨ countOf c = 18 ∨ countOf c = 19
    · rw [if_pos (e.mpr hk), if_pos ⟨hs, hk⟩]
      unfold doSending
      have e2 : ((toAll c || !modeAllowed M (countOf c)) = true) ↔ (toAll c = true ∨ modeAllowed M (countOf c) = false) := by
        cases toAll c <;> cases modeAllowed M (countOf c) <;> simp
      by_cases q : toAll c = true ∨ modeAllowed M (countOf c) = false
      · rw [if_pos (e2.mpr q), if_pos q]
        exact abs_replyError w c
      · rw [if_neg (fun z => q (e2.mp z)), if_neg q]
        by_cases h18 : countOf c = 18
        · rw [if_pos h18, if_neg (by simp [h18]), if_pos h18, abs_reply w]
          rfl
        · rw [if_neg h18, if_neg h18]
          by_cases b : busy M = true
          · rw [if_pos b, if_pos ⟨b, h18⟩, abs_reply w]
          · rw [if_neg b, if_neg (show ¬ (busy M = true ∧ countOf c ≠ 18) from fun z => b z.1), abs_reply w]
            rfl
    · rw [if_neg (fun z => hk (e.mp z)), if_neg (show ¬ (sends c = true ∧ (countOf c = 16 ∨ countOf c = 18 ∨ countOf c = 19)) from fun z => hk z.2), if_neg (show ¬ (sends c = false ∧ (countOf c = 17 ∨ countOf c = 20 ∨ countOf c = 21)) by rw [hs]; simp)]
      exact abs_replyError w c
  · have hs' : sends c = false := by simpa using hs
    rw [if_neg (show ¬ (sends c = true ∧ (countOf c = 16 ∨ countOf c = 18 ∨ countOf c = 19)) from fun z => hs z.1)]
    have e : takesWord c = true ↔ (countOf c = 17 ∨ countOf c = 20 ∨ countOf c = 21) := by
      unfold takesWord
      rw [hs']
      simp [or_assoc]
    have e2 : sendsWord c = false := by unfold sendsWord; rw [hs']; rfl
    by_cases hk : countOf c = 17 ∨ countOf c = 20 ∨ countOf c = 21
    · rw [if_pos (e.mpr hk), if_pos ⟨hs', hk⟩]
      unfold abs awaitWords phaseOf
      dsimp only
      rw [if_neg (by decide), if_neg (by decide), if_neg (by decide), if_pos m]
    · rw [if_neg (fun z => hk (e.mp z)), if_neg (show ¬ (sends c = false ∧ (countOf c = 17 ∨ countOf c = 20 ∨ countOf c = 21)) from fun z => hk z.2), e2, if_neg Bool.false_ne_true]
      exact abs_replyError w c
theorem replicate_zero_take {l : List Nat} {n : Nat} (h : n ≤ 32) : (l ++ List.replicate 32 0).take n = l.take n ++ List.replicate (n - (l.take n).length) 0 := by
  rw [List.take_append, List.take_replicate, List.length_take]
  congr 2
  omega
theorem abs_transmit {M : Mir} (w : Wf M) (c : Nat) (idle : M.awaited = 0) :
    abs (transmit M c) = (if toAll c = true then (abs M).fault else if Sa67.allowed (abs M) 1 (subOf c) (countOf c) = false then (Sa67.wrong (abs M)).reply c [] else if Sa67.busy (abs M) = true then (abs M).reply c [] else (abs M).reply c ((((abs M).given.getD (subOf c) []) ++ List.replicate 32 0).take (many c))) := by
  unfold transmit
  rw [allow_sub M (by decide), abs_busy]
  by_cases h1 : toAll c = true
  · rw [if_pos h1, if_pos h1, abs_countError]
    unfold St.fault abs phaseOf
    dsimp only
    rw [if_pos idle]
  · rw [if_neg h1, if_neg h1]
    by_cases h2 : isAllowed M 1 c = false
    · rw [if_pos h2, if_pos h2]
      exact abs_replyError w c
    · rw [if_neg h2, if_neg h2]
      by_cases h3 : busy M = true
      · rw [if_pos h3, if_pos h3, abs_reply w]
      · rw [if_neg h3, if_neg h3, abs_reply w, replicate_zero_take (many_le c)]
        rfl
theorem noted_aw (M : Mir) (c : Nat) : (noted M c).awaited = M.awaited ∧ (noted M c).taken = M.taken ∧ (noted M c).sender = M.sender ∧ (noted M c).address = M.address := by
  unfold noted
  split <;> exact ⟨rfl, rfl, rfl, rfl⟩
theorem abs_noted {M : Mir} (w : Wf M) {c : Nat} (mine : isFor M c = true) : abs (noted (drop M) c) = (if Sa67.keeps (abs M) c = true then { abs M with phase := .idle } else { abs M with phase := .idle, lastCmd := c, error := false, all := toAll c }) := by
  have e : Sa67.keeps (abs M) c = asksBefore c := by
    unfold Sa67.keeps asksBefore
    show ((toOf c == M.address) && _) = _
    unfold isFor at mine
    have had := w.ad
    cases ta : toAll c with
    | true =>
      have h31 : toOf c = 31 := by simpa [toAll, Sa67.toAll] using ta
      have : (toOf c == M.address) = false := by simp; omega
      rw [this]
      simp
    | false =>
      rw [ta] at mine
      have hm : (toOf c == M.address) = true := by simpa using mine
      rw [hm]
      simp
  rw [e]
  unfold noted
  cases h : asksBefore c with
  | true => rfl
  | false =>
    rw [if_pos rfl, if_neg Bool.false_ne_true]
    unfold abs drop phaseOf
    dsimp only
    rw [if_pos rfl]
    cases toAll c <;> rfl
theorem abs_begin {M : Mir} (w : Wf M) {c now : Nat} (hc : c < 65536) (mine : isFor M c = true) : abs (beginCommand M c now) = Sa67.begin_ (abs M) c now := by
  have n := abs_noted w mine
  have w1 : Wf (noted (drop M) c) := w.drop.noted hc
  obtain ⟨a1, a2, a3, a4⟩ := noted_aw (drop M) c
  unfold Sa67.begin_
  rw [← n]
  unfold beginCommand
  dsimp only
  generalize noted (drop M) c = M1 at *
  by_cases m : mode c = true
  · rw [if_pos m]
    by_cases h : countOf c < 16
    · have ht : takesWord c = false := by
        unfold takesWord
        have h1 : (countOf c == 17) = false := by simp; omega
        have h2 : (countOf c == 20) = false := by simp; omega
        have h3 : (countOf c == 21) = false := by simp; omega
        rw [h1, h2, h3]
        simp
      rw [ht, Bool.and_false, if_neg Bool.false_ne_true, if_pos h, if_pos m]
      unfold doMode
      rw [if_pos h]
      exact abs_doLow w1 h
    · rw [if_neg h, ← abs_high w1 h m a1 a2 a3, m, Bool.true_and]
      unfold doMode
      rw [if_neg h, if_pos rfl]
  · have m' : mode c = false := by simpa using m
    rw [if_neg m, if_neg m, m', Bool.false_and, if_neg Bool.false_ne_true]
    by_cases s : sends c = true
    · rw [if_pos s, if_neg (by rw [s]; simp)]
      exact abs_transmit w1 c a1
    · have s' : sends c = false := by simpa using s
      rw [if_neg s, if_pos s']
      rfl

/-! ### nothing goes on behind it -/
structure Quiet (M : Mir) : Prop where
  aw : M.awaited = 0
  tk : M.taken = []
theorem Quiet.ph {M : Mir} (q : Quiet M) : Ph M := .idle q.aw q.tk
theorem Quiet.drop (M : Mir) : Quiet (drop M) := ⟨rfl, rfl⟩
theorem Quiet.reply {M : Mir} (q : Quiet M) (c : Nat) (l : List Nat) : Quiet (reply M c l) := by
  unfold Bt.reply
  split
  · exact q
  · exact ⟨q.aw, q.tk⟩
theorem Quiet.replyError {M : Mir} (q : Quiet M) (c : Nat) : Quiet (replyError M c) := Quiet.reply (M := { M with error := 1 }) ⟨q.aw, q.tk⟩ c []
theorem Quiet.changeLow {M : Mir} (q : Quiet M) (k : Nat) : Quiet (changeLow M k) := by
  have h : (Bt.changeLow M k).awaited = M.awaited ∧ (Bt.changeLow M k).taken = M.taken := by
    unfold Bt.changeLow
    dsimp only
    constructor <;> (repeat' split) <;> rfl
  exact ⟨h.1.trans q.aw, h.2.trans q.tk⟩
theorem Quiet.doMode {M : Mir} (q : Quiet M) (c : Nat) : Quiet (doMode M c) := by
  unfold Bt.doMode
  split
  · unfold doLow
    split
    · exact q.replyError c
    split
    · exact ⟨q.aw, q.tk⟩
    split
    · exact ⟨q.aw, q.tk⟩
    · exact (q.changeLow _).reply c []
  split
  · unfold doSending
    split
    · exact q.replyError c
    split
    · exact q.reply c _
    split
    · exact q.reply c _
    · exact q.reply c _
  · exact q.replyError c
theorem Quiet.transmit {M : Mir} (q : Quiet M) (c : Nat) : Quiet (transmit M c) := by
  unfold Bt.transmit
  split
  · exact ⟨q.aw, q.tk⟩
  split
  · exact q.replyError c
  split
  · exact q.reply c _
  · exact q.reply c _
theorem Quiet.noted {M : Mir} (q : Quiet M) (c : Nat) : Quiet (noted M c) := ⟨(noted_aw M c).1.trans q.aw, (noted_aw M c).2.1.trans q.tk⟩
theorem Ph.beginCommand (M : Mir) (c now : Nat) : Ph (beginCommand M c now) := by
  have q := (Quiet.drop M).noted c
  unfold Bt.beginCommand
  dsimp only
  split
  · rename_i h
    rw [Bool.and_eq_true] at h
    refine ⟨Nat.le_refl _, fun e => absurd e (by show ¬ 3 = 0; decide), fun e => absurd e (by show ¬ 3 = 1; decide), fun e => absurd e (by show ¬ 3 = 2; decide), fun _ => ⟨fun _ => ⟨q.tk, ?_⟩, fun m => ?_⟩⟩
    · have t := h.2
      unfold takesWord at t
      show ¬ countOf c < 16
      simp at t
      omega
    have m : mode c = false := m
    rw [h.1] at m
    cases m
  split
  · exact (q.doMode c).ph
  split
  · exact (q.transmit c).ph
  · rename_i h _
    refine ⟨by show 1 ≤ 3; decide, fun e => absurd e (by show ¬ 1 = 0; decide), fun _ => ⟨?_, q.tk⟩, fun e => absurd e (by show ¬ 1 = 2; decide), fun e => absurd e (by show ¬ 1 = 3; decide)⟩
    show mode c = false
    simpa using h
theorem Quiet.takeMode {M : Mir} (q : Quiet M) (c v : Nat) : Quiet (takeMode M c v) := by
  unfold Bt.takeMode
  (repeat' split) <;> exact ⟨q.aw, q.tk⟩
theorem Quiet.receive {M : Mir} (q : Quiet M) (c : Nat) (l : List Nat) : Quiet (receive M c l) := by
  unfold Bt.receive
  (repeat' split) <;> exact ⟨q.aw, q.tk⟩
theorem mine_eq (M : Mir) (w : Nat) : Sa67.mine (abs M) w = isFor M w := by
  unfold Sa67.mine isFor
  exact Bool.or_comm _ _
theorem abs_silence (M : Mir) (p : Ph M) (now : Nat) : abs (silence M now) = Sa67.late (abs M) now := by
  have h := p.aw
  have h4 : M.awaited = 0 ∨ M.awaited = 1 ∨ M.awaited = 2 ∨ M.awaited = 3 := by omega
  unfold silence Sa67.late longest
  show _ = match phaseOf M with
    | .idle => abs M
    | .data _ _ _ last _ => if 23 < gone last now then (abs M).fault else abs M
    | .status _ _ _ last => if 57 < gone last now then (abs M).fault else abs M
    | .word _ last => if 23 < gone last now then (abs M).fault else abs M
  rcases h4 with e | e | e | e
  · have ep : phaseOf M = .idle := by unfold phaseOf; rw [if_pos e]
    rw [ep, if_neg (fun z => z.1 e)]
  · have ep : phaseOf M = .data M.command (many M.command) [] M.heardAt true := by unfold phaseOf; simp [e]
    rw [ep]
    simp only [e]
    by_cases g : 23 < gone M.heardAt now <;> simp [g, abs_fail]
  · have ep : phaseOf M = .status M.command M.sender (many M.command) M.heardAt := by unfold phaseOf; simp [e]
    rw [ep]
    simp only [e]
    by_cases g : 57 < gone M.heardAt now <;> simp [g, abs_fail]
  · cases m : mode M.command with
    | true =>
      have ep : phaseOf M = .word M.command M.heardAt := by unfold phaseOf; simp [e, m]
      rw [ep]
      simp only [e]
      by_cases g : 23 < gone M.heardAt now <;> simp [g, abs_fail]
    | false =>
      have ep : phaseOf M = .data M.command (many M.command) M.taken M.heardAt false := by unfold phaseOf; simp [e, m]
      rw [ep]
      simp only [e]
      by_cases g : 23 < gone M.heardAt now <;> simp [g, abs_fail]
theorem silence_in (M : Mir) (now : Nat) (h : (silence M now).awaited ≠ 0) : gone (silence M now).heardAt now ≤ longest (silence M now) := by
  unfold silence at h ⊢
  split
  · rename_i q
    rw [if_pos q] at h
    exact absurd rfl h
  · rename_i q
    rw [if_neg q] at h
    have : ¬ longest M < gone M.heardAt now := fun z => q ⟨h, z⟩
    omega
theorem abs_received {M : Mir} (w : Wf M) (c : Nat) {l : List Nat} (hl : l.length ≤ 32) : abs (finishReceiving (drop M) c l) = Sa67.received (abs M) c l := by
  unfold Sa67.received finishReceiving
  rw [← abs_drop]
  have w1 := w.drop
  generalize drop M = M1 at *
  rw [abs_reply (w1.receive c hl)]
  have ew : (if toAll c = true then 2 else 0) = whatTo c := rfl
  have h3 : whatTo c < 3 := by unfold whatTo; split <;> omega
  dsimp only
  rw [ew, allow_sub M1 h3, abs_busy]
  unfold receive
  by_cases h1 : isAllowed M1 (whatTo c) c = false
  · rw [if_pos h1, if_pos h1]
    rfl
  · rw [if_neg h1, if_neg h1]
    cases b : busy M1 with
    | true => simp
    | false => rfl
theorem abs_worded {M : Mir} (w : Wf M) {c : Nat} (v : Nat) (h : ¬ countOf c < 16) : abs (finishTaking (drop M) c v) = Sa67.worded (abs M) c v := by
  unfold Sa67.worded finishTaking
  rw [← abs_drop]
  have w1 := w.drop
  generalize drop M = M1 at *
  rw [abs_reply (w1.takeMode c v)]
  dsimp only
  rw [allow_high M1 h]
  unfold takeMode
  by_cases h1 : modeAllowed M1 (countOf c) = false
  · rw [if_pos h1, if_pos h1]
    rfl
  · rw [if_neg h1, if_neg h1]
    by_cases h2 : countOf c = 17
    · rw [if_pos h2, if_pos h2]
      rfl
    · rw [if_neg h2, if_neg h2]
      by_cases h3 : v = 1
      · subst h3
        rw [if_pos rfl, if_neg (show ¬ ((1 : Nat) ≠ 1) by simp)]
        congr 1
        show abs { M1 with off := if countOf c = 20 then 1 else 0 } = { abs M1 with off := countOf c == 20 }
        by_cases h20 : countOf c = 20 <;> simp [h20, abs, phaseOf]
      · rw [if_neg h3, if_pos h3]

theorem follows_eq {last now most : Nat} (h : gone last now ≤ most) : Sa67.follows last now most = decide (20 ≤ gone last now) := by
  unfold Sa67.follows
  rw [decide_eq_true h, Bool.and_true]
theorem bad_eq {good : Bool} {a b : Nat} : (good = false ∨ a < b) ↔ ¬ (good = true ∧ b ≤ a) := by
  cases good <;> simp <;> omega
/-- a word that begins no command, where one is awaited -/
theorem abs_awaited {M : Mir} (w : Wf M) (p : Ph M) {sync v : Nat} {good : Bool} {now : Nat} (hs : sync = 0 ∨ sync = 1) (ha : M.awaited ≠ 0) (hl : gone M.heardAt now ≤ longest M) (nm : ¬ (good = true ∧ sync = 0 ∧ isFor M v = true)) :
    abs (hearAwaited M sync v good now) = Sa67.word (abs M) sync v good now → True := fun _ => trivial
theorem abs_hear {M : Mir} (w : Wf M) (p : Ph M) {sync v : Nat} {good : Bool} {now : Nat} (hs : sync = 0 ∨ sync = 1) (hv : v < 65536) :
    abs (hear M sync v good now) = Sa67.word (abs M) sync v good now := by
  unfold Sa67.word hear
  dsimp only
  rw [← abs_silence M p now]
  have w1 := w.silence now
  have p1 := p.silence now
  have hl := silence_in M now
  generalize silence M now = M1 at *
  rw [mine_eq]
  have h := p1.aw
  have h4 : M1.awaited = 0 ∨ M1.awaited = 1 ∨ M1.awaited = 2 ∨ M1.awaited = 3 := by omega
  by_cases b : good = true ∧ sync = 0 ∧ isFor M1 v = true
  · rw [if_pos b]
    have hb := abs_begin (now := now) w1 hv b.2.2
    rcases h4 with e | e | e | e
    · have ep : (abs M1).phase = .idle := by show phaseOf M1 = _; unfold phaseOf; rw [if_pos e]
      rw [ep]
      unfold Sa67.fresh
      dsimp only
      rw [mine_eq, if_pos b]
      exact hb
    · have ep : (abs M1).phase = .data M1.command (many M1.command) [] M1.heardAt true := by show phaseOf M1 = _; unfold phaseOf; simp [e]
      rw [ep]
      dsimp only
      rw [if_pos b]
      exact hb
    · have ep : (abs M1).phase = .status M1.command M1.sender (many M1.command) M1.heardAt := by show phaseOf M1 = _; unfold phaseOf; simp [e]
      rw [ep]
      dsimp only
      have q := p1.p2 e
      have ne : ¬ (good = true ∧ sync = 0 ∧ toOf v = M1.sender ∧ Sa67.follows M1.heardAt now 57 = true) := fun z => by
        have hb2 := b.2.2
        unfold isFor at hb2
        rw [Bool.or_eq_true] at hb2
        rcases hb2 with y | y
        · have : toOf v = 31 := by simpa [toAll, Sa67.toAll] using y
          exact q.2.2.2 (z.2.2.1.symm.trans this)
        · have : toOf v = M1.address := by simpa using y
          exact q.2.2.1 (z.2.2.1.symm.trans this)
      rw [if_neg ne, if_pos b]
      exact hb
    · cases m : mode M1.command with
      | true =>
        have ep : (abs M1).phase = .word M1.command M1.heardAt := by show phaseOf M1 = _; unfold phaseOf; simp [e, m]
        rw [ep]
        dsimp only
        rw [if_pos b]
        exact hb
      | false =>
        have ep : (abs M1).phase = .data M1.command (many M1.command) M1.taken M1.heardAt false := by show phaseOf M1 = _; unfold phaseOf; simp [e, m]
        rw [ep]
        dsimp only
        rw [if_pos b]
        exact hb
  · rw [if_neg b]
    rcases h4 with e | e | e | e
    · have ep : (abs M1).phase = .idle := by show phaseOf M1 = _; unfold phaseOf; rw [if_pos e]
      rw [ep, if_neg (by simp [e])]
      unfold Sa67.fresh
      dsimp only
      rw [mine_eq, if_neg b]
    · have ep : (abs M1).phase = .data M1.command (many M1.command) [] M1.heardAt true := by show phaseOf M1 = _; unfold phaseOf; simp [e]
      have l23 : gone M1.heardAt now ≤ 23 := by have := hl (by omega); unfold longest at this; simpa [e] using this
      rw [ep, if_pos (show M1.awaited ≠ 0 by omega)]
      dsimp only
      rw [if_neg b, follows_eq l23]
      unfold hearAwaited
      have q := p1.p1 e
      by_cases g : good = true ∧ 20 ≤ gone M1.heardAt now
      · rw [if_neg (fun z => bad_eq.mp z g)]
        obtain ⟨g1, g2⟩ := g
        rw [decide_eq_true g2]
        rcases hs with rfl | rfl
        · rw [if_neg (show ¬ (0 = 1) by decide), if_neg (show ¬ (good = true ∧ 0 = 1 ∧ true = true) by simp)]
          unfold hearOther
          by_cases s : sends v = true
          · rw [if_pos ⟨e, s⟩, if_pos (show good = true ∧ 0 = 0 ∧ true = true ∧ sends v = true ∧ true = true from ⟨g1, rfl, rfl, s, rfl⟩)]
            unfold abs phaseOf
            dsimp only
            simp
          · rw [if_neg (fun z => s z.2), if_neg (show ¬ (good = true ∧ 0 = 0 ∧ true = true ∧ sends v = true ∧ true = true) from fun z => s z.2.2.2.1), if_neg (show ¬ (M1.awaited = 2 ∧ toOf v = M1.sender) from fun z => by omega)]
            exact abs_fail M1
        · rw [if_pos rfl, if_neg (show ¬ (good = true ∧ 1 = 0 ∧ true = true ∧ sends v = true ∧ true = true) from fun z => by simp at z), if_pos (show good = true ∧ 1 = 1 ∧ true = true from ⟨g1, rfl, rfl⟩)]
          unfold hearData
          rw [if_neg (by omega)]
          unfold finishIfAll
          dsimp only
          rw [q.1, if_neg Bool.false_ne_true, q.2]
          show abs (if (([] : List Nat) ++ [v]).length = many M1.command then _ else _) = if ([] : List Nat).length + 1 = many M1.command then _ else _
          by_cases hm : 1 = many M1.command
          · rw [if_pos (show (([] : List Nat) ++ [v]).length = many M1.command from hm), if_pos (show ([] : List Nat).length + 1 = many M1.command from hm)]
            exact abs_received w1 M1.command (show ([] ++ [v]).length ≤ 32 by show 1 ≤ 32; decide)
          · rw [if_neg (show ¬ (([] : List Nat) ++ [v]).length = many M1.command from hm), if_neg (show ¬ ([] : List Nat).length + 1 = many M1.command from hm)]
            unfold abs phaseOf
            dsimp only
            simp [q.1]
      · rw [if_pos (bad_eq.mpr g), if_neg (show ¬ (good = true ∧ sync = 0 ∧ true = true ∧ sends v = true ∧ decide (20 ≤ gone M1.heardAt now) = true) from fun z => g ⟨z.1, of_decide_eq_true z.2.2.2.2⟩),
          if_neg (show ¬ (good = true ∧ sync = 1 ∧ decide (20 ≤ gone M1.heardAt now) = true) from fun z => g ⟨z.1, of_decide_eq_true z.2.2⟩)]
        exact abs_fail M1
    · have ep : (abs M1).phase = .status M1.command M1.sender (many M1.command) M1.heardAt := by show phaseOf M1 = _; unfold phaseOf; simp [e]
      have l57 : gone M1.heardAt now ≤ 57 := by have := hl (by omega); unfold longest at this; simpa [e] using this
      rw [ep, if_pos (show M1.awaited ≠ 0 by omega)]
      dsimp only
      rw [if_neg b, follows_eq l57]
      unfold hearAwaited
      have q := p1.p2 e
      by_cases g : good = true ∧ 20 ≤ gone M1.heardAt now
      · rw [if_neg (fun z => bad_eq.mp z g)]
        obtain ⟨g1, g2⟩ := g
        rw [decide_eq_true g2]
        rcases hs with rfl | rfl
        · rw [if_neg (show ¬ (0 = 1) by decide)]
          unfold hearOther
          rw [if_neg (show ¬ (M1.awaited = 1 ∧ sends v = true) from fun z => by omega)]
          by_cases s : toOf v = M1.sender
          · rw [if_pos ⟨e, s⟩, if_pos (show good = true ∧ 0 = 0 ∧ toOf v = M1.sender ∧ true = true from ⟨g1, rfl, s, rfl⟩)]
            unfold abs phaseOf
            dsimp only
            simp [q.1, q.2.1]
          · rw [if_neg (fun z => s z.2), if_neg (show ¬ (good = true ∧ 0 = 0 ∧ toOf v = M1.sender ∧ true = true) from fun z => s z.2.2.1)]
            exact abs_fail M1
        · rw [if_pos rfl, if_neg (show ¬ (good = true ∧ 1 = 0 ∧ toOf v = M1.sender ∧ true = true) from fun z => by simp at z)]
          unfold hearData
          rw [if_pos e]
          exact abs_fail M1
      · rw [if_pos (bad_eq.mpr g), if_neg (show ¬ (good = true ∧ sync = 0 ∧ toOf v = M1.sender ∧ decide (20 ≤ gone M1.heardAt now) = true) from fun z => g ⟨z.1, of_decide_eq_true z.2.2.2⟩)]
        exact abs_fail M1
    · have l23 : gone M1.heardAt now ≤ 23 := by have := hl (by omega); unfold longest at this; simpa [e] using this
      have q := p1.p3 e
      cases m : mode M1.command with
      | true =>
        have ep : (abs M1).phase = .word M1.command M1.heardAt := by show phaseOf M1 = _; unfold phaseOf; simp [e, m]
        rw [ep, if_pos (show M1.awaited ≠ 0 by omega)]
        dsimp only
        rw [if_neg b, follows_eq l23]
        unfold hearAwaited
        by_cases g : good = true ∧ 20 ≤ gone M1.heardAt now
        · rw [if_neg (fun z => bad_eq.mp z g)]
          obtain ⟨g1, g2⟩ := g
          rw [decide_eq_true g2]
          rcases hs with rfl | rfl
          · rw [if_neg (show ¬ (0 = 1) by decide), if_neg (show ¬ (good = true ∧ 0 = 1 ∧ true = true) by simp)]
            unfold hearOther
            rw [if_neg (show ¬ (M1.awaited = 1 ∧ sends v = true) from fun z => by omega), if_neg (show ¬ (M1.awaited = 2 ∧ toOf v = M1.sender) from fun z => by omega)]
            exact abs_fail M1
          · rw [if_pos rfl, if_pos (show good = true ∧ 1 = 1 ∧ true = true from ⟨g1, rfl, rfl⟩)]
            unfold hearData
            rw [if_neg (by omega)]
            unfold finishIfAll
            dsimp only
            rw [if_pos m, (q.1 m).1]
            exact abs_worded w1 v (q.1 m).2
        · rw [if_pos (bad_eq.mpr g), if_neg (show ¬ (good = true ∧ sync = 1 ∧ decide (20 ≤ gone M1.heardAt now) = true) from fun z => g ⟨z.1, of_decide_eq_true z.2.2⟩)]
          exact abs_fail M1
      | false =>
        have ep : (abs M1).phase = .data M1.command (many M1.command) M1.taken M1.heardAt false := by show phaseOf M1 = _; unfold phaseOf; simp [e, m]
        rw [ep, if_pos (show M1.awaited ≠ 0 by omega)]
        dsimp only
        rw [if_neg b, follows_eq l23, if_neg (show ¬ (good = true ∧ sync = 0 ∧ false = true ∧ sends v = true ∧ decide (20 ≤ gone M1.heardAt now) = true) by simp)]
        unfold hearAwaited
        by_cases g : good = true ∧ 20 ≤ gone M1.heardAt now
        · rw [if_neg (fun z => bad_eq.mp z g)]
          obtain ⟨g1, g2⟩ := g
          rw [decide_eq_true g2]
          rcases hs with rfl | rfl
          · rw [if_neg (show ¬ (0 = 1) by decide), if_neg (show ¬ (good = true ∧ 0 = 1 ∧ true = true) by simp)]
            unfold hearOther
            rw [if_neg (show ¬ (M1.awaited = 1 ∧ sends v = true) from fun z => by omega), if_neg (show ¬ (M1.awaited = 2 ∧ toOf v = M1.sender) from fun z => by omega)]
            exact abs_fail M1
          · rw [if_pos rfl, if_pos (show good = true ∧ 1 = 1 ∧ true = true from ⟨g1, rfl, rfl⟩)]
            unfold hearData
            rw [if_neg (by omega)]
            unfold finishIfAll
            dsimp only
            rw [m, if_neg Bool.false_ne_true, List.length_append, List.length_singleton]
            by_cases hm : M1.taken.length + 1 = many M1.command
            · rw [if_pos hm, if_pos hm]
              have := many_le M1.command
              exact abs_received w1 M1.command (show (M1.taken ++ [v]).length ≤ 32 by rw [List.length_append, List.length_singleton]; omega)
            · rw [if_neg hm, if_neg hm]
              unfold abs phaseOf
              dsimp only
              simp [m]
        · rw [if_pos (bad_eq.mpr g), if_neg (show ¬ (good = true ∧ sync = 1 ∧ decide (20 ≤ gone M1.heardAt now) = true) from fun z => g ⟨z.1, of_decide_eq_true z.2.2⟩)]
          exact abs_fail M1
theorem Ph.hear {M : Mir} (p : Ph M) {sync v : Nat} {good : Bool} {now : Nat} (hs : sync = 0 ∨ sync = 1) : Ph (hear M sync v good now) := by
  unfold Bt.hear
  dsimp only
  have p1 := p.silence now
  generalize Bt.silence M now = M1 at *
  split
  · exact .beginCommand M1 v now
  rename_i b
  split
  rename_i ha
  · unfold hearAwaited
    split
    · exact .idle rfl rfl
    rename_i g
    split
    · unfold hearData
      split
      · exact .idle rfl rfl
      rename_i n2
      unfold finishIfAll
      dsimp only
      split
      · exact (((Quiet.drop _).takeMode _ _).reply _ _).ph
      rename_i m
      split
      · exact (((Quiet.drop _).receive _ _).reply _ _).ph
      · rename_i hm
        refine ⟨Nat.le_refl _, fun e => absurd e (by show ¬ 3 = 0; decide), fun e => absurd e (by show ¬ 3 = 1; decide), fun e => absurd e (by show ¬ 3 = 2; decide), fun _ => ⟨fun m' => absurd m' m, fun _ => ?_⟩⟩
        show (M1.taken ++ [v]).length < many M1.command
        rw [List.length_append, List.length_singleton] at hm ⊢
        have h4 : M1.awaited = 1 ∨ M1.awaited = 3 := by have := p1.aw; omega
        rcases h4 with e | e
        · rw [(p1.p1 e).2] at hm ⊢
          have := many_pos M1.command
          simp at hm ⊢
          omega
        · have := (p1.p3 e).2 (by simpa using m)
          omega
    · rename_i s1
      unfold hearOther
      split
      · rename_i q
        have q1 := p1.p1 q.1
        have hb : isFor M1 v = false := by
          cases z : isFor M1 v with
          | false => rfl
          | true =>
            have g1 : good = true := by cases good with | true => rfl | false => exact absurd (.inl rfl) g
            exact absurd ⟨g1, by omega, z⟩ b
        unfold isFor at hb
        rw [Bool.or_eq_false_iff] at hb
        refine ⟨by show 2 ≤ 3; decide, fun e => absurd e (by show ¬ 2 = 0; decide), fun e => absurd e (by show ¬ 2 = 1; decide), fun _ => ⟨q1.1, q1.2, ?_, ?_⟩, fun e => absurd e (by show ¬ 2 = 3; decide)⟩
        · simpa using hb.2
        · have := hb.1
          simpa [toAll, Sa67.toAll] using this
      split
      · rename_i q
        have q2 := p1.p2 q.1
        refine ⟨Nat.le_refl _, fun e => absurd e (by show ¬ 3 = 0; decide), fun e => absurd e (by show ¬ 3 = 1; decide), fun e => absurd e (by show ¬ 3 = 2; decide), fun _ => ⟨fun m' => ?_, fun _ => ?_⟩⟩
        · have m' : mode M1.command = true := m'
          rw [q2.1] at m'
          cases m'
        · show M1.taken.length < many M1.command
          rw [q2.2.1]
          exact many_pos _
      · exact .idle rfl rfl
  · exact p1
end Bt
end
section
set_option Elab.async false
set_option linter.all false
set_option maxRecDepth 100000
/-! The calls of a line as plain functions, and that they do what the specification does. -/
namespace Bt
open Sa67 (toOf sends subOf countOf many mode toAll onWire gone St Phase)
def intsOf (l : List Nat) : List Int := l.map fun (n : Nat) => (n : Int)
def mBegin (M : Mir) (a : Int) : Mir × List Int := if a < 0 ∨ 30 < a then (M, [-2]) else (begun a.toNat, [0])
def mWord (M : Mir) (y : Int) (v : Nat) (g : Int) (now : Nat) : Mir × List Int := if y = 0 ∨ y = 1 then (hear M y.toNat v (g != 0) now, [0]) else (M, [-2])
def mGive (M : Mir) (k : Int) (l : List Nat) : Mir × List Int := if (0 ≤ k ∧ k ≤ 31) ∧ l.length ≤ 32 then ({ M with given := M.given.set k.toNat l }, [0]) else (M, [-2])
def mGet (M : Mir) (k : Int) : Mir × List Int := if 0 ≤ k ∧ k ≤ 31 then ({ M with got := M.got.set k.toNat [] }, ((M.got.getD k.toNat []).length : Int) :: intsOf (M.got.getD k.toNat [])) else (M, [-2])
def mFlags (M : Mir) (f : Int) : Mir × List Int := if f < 0 ∨ 31 < f then (M, [-2]) else ({ M with flags := f.toNat }, [0])
def hasAllowed (x k : Int) : Bool := if x < 0 ∨ 4 < x then false else if 3 ≤ x then decide (k = 0) else decide (0 ≤ k) && decide (k ≤ 31)
def mAllow (M : Mir) (x k : Int) (m : Nat) : Mir × List Int := if hasAllowed x k = true then ({ M with allowed := M.allowed.set x.toNat ((M.allowed.getD x.toNat []).set k.toNat m) }, [0]) else (M, [-2])
def mTold (M : Mir) : List Int := [0, M.lastStatus, M.lastCommand, M.step, M.off, M.messages, M.errors]
inductive CallOf (M : Mir) : List Int → Mir → List Int → Prop
  | begin (a : Int) : CallOf M [0, a] (mBegin M a).1 (mBegin M a).2
  | word (y g : Int) (v now : Nat) (hv : v < 65536) (hn : now < 4294967296) : CallOf M [1, y, (v : Int), g, (now : Int)] (mWord M y v g now).1 (mWord M y v g now).2
  | tick (now : Nat) : CallOf M [2, (now : Int)] (silence M now) [0]
  | output : CallOf M [3] { M with toSend := [] } ((M.toSend.length : Int) :: intsOf M.toSend)
  | give (k : Int) (l : List Nat) (h : ∀ x ∈ l, x < 65536) (hl : l.length ≤ 40) : CallOf M (4 :: k :: (l.length : Int) :: intsOf l) (mGive M k l).1 (mGive M k l).2
  | get (k : Int) : CallOf M [5, k] (mGet M k).1 (mGet M k).2
  | flags (f : Int) : CallOf M [6, f] (mFlags M f).1 (mFlags M f).2
  | allow (x k : Int) (m : Nat) : CallOf M [7, x, k, (m : Int)] (mAllow M x k m).1 (mAllow M x k m).2
  | told : CallOf M [8] M (mTold M)

theorem Wf.begun {a : Nat} (h : a ≤ 30) : Wf (begun a) := by
  refine ⟨h, Nat.zero_le _, rfl, fun i hi => ?_, fun i h3 h5 => ?_, rfl, fun i => ?_, rfl, fun i => ?_, Nat.zero_le _, Nat.zero_le _, Nat.zero_le _, Nat.zero_le _, by show 0 < _; omega, by show 0 < _; omega, Nat.zero_le _, by show 0 < _; omega, Nat.zero_le _⟩
  · have : i = 0 ∨ i = 1 ∨ i = 2 := by omega
    rcases this with rfl | rfl | rfl <;> rfl
  · have : i = 3 ∨ i = 4 := by omega
    rcases this with rfl | rfl <;> rfl
  · have e : (Bt.begun a).given.getD i [] = [] := by
      show (List.replicate 32 ([] : List Nat)).getD i [] = []
      rw [List.getD_eq_getElem?_getD, List.getElem?_replicate]
      split <;> rfl
    rw [e]
    exact ⟨Nat.zero_le _, fun x hx => by cases hx⟩
  · have e : (Bt.begun a).got.getD i [] = [] := by
      show (List.replicate 32 ([] : List Nat)).getD i [] = []
      rw [List.getD_eq_getElem?_getD, List.getElem?_replicate]
      split <;> rfl
    rw [e]
    exact Nat.zero_le _
theorem Ph.begun (a : Nat) : Ph (begun a) := .idle rfl rfl
theorem abs_begun (a : Nat) : abs (begun a) = Sa67.begun a := rfl
theorem intsOf_len (l : List Nat) : (intsOf l).length = l.length := by unfold intsOf; rw [List.length_map]
theorem Wf.call {M M' : Mir} {cl l : List Int} (w : Wf M) (p : Ph M) (h : CallOf M cl M' l) : Wf M' ∧ Ph M' ∧ l.length ≤ 34 := by
  cases h with
  | begin a =>
    unfold mBegin
    split
    · exact ⟨w, p, by show 1 ≤ 34; decide⟩
    · exact ⟨.begun (by omega), .begun _, by show 1 ≤ 34; decide⟩
  | word y g v now hv hn =>
    unfold mWord
    split
    · rename_i hy
      exact ⟨w.hear p _ hv hn, p.hear (by rcases hy with rfl | rfl <;> simp), by show 1 ≤ 34; decide⟩
    · exact ⟨w, p, by show 1 ≤ 34; decide⟩
  | tick now => exact ⟨w.silence now, p.silence now, by show 1 ≤ 34; decide⟩
  | output =>
    refine ⟨{ w with se := Nat.zero_le _ }, ⟨p.aw, p.p0, p.p1, p.p2, p.p3⟩, ?_⟩
    have := w.se
    rw [List.length_cons, intsOf_len]
    omega
  | give k l h hl =>
    unfold mGive
    split
    · rename_i q
      refine ⟨{ w with gi := by show (M.given.set _ _).length = 32; rw [List.length_set]; exact w.gi, gis := fun i => ?_ }, ⟨p.aw, p.p0, p.p1, p.p2, p.p3⟩, by show 1 ≤ 34; decide⟩
      show ((M.given.set _ _).getD i []).length ≤ 32 ∧ ∀ x ∈ (M.given.set _ _).getD i [], x < 65536
      rw [getD_set]
      split
      · exact ⟨q.2, h⟩
      · exact w.gis i
    · exact ⟨w, p, by show 1 ≤ 34; decide⟩
  | get k =>
    unfold mGet
    split
    · refine ⟨{ w with go := by show (M.got.set _ _).length = 32; rw [List.length_set]; exact w.go, gos := fun i => ?_ }, ⟨p.aw, p.p0, p.p1, p.p2, p.p3⟩, ?_⟩
      · show ((M.got.set _ _).getD i []).length ≤ 32
        rw [getD_set]
        split
        · exact Nat.zero_le _
        · exact w.gos i
      · have := w.gos k.toNat
        rw [List.length_cons, intsOf_len]
        omega
    · exact ⟨w, p, by show 1 ≤ 34; decide⟩
  | flags f =>
    unfold mFlags
    split
    · exact ⟨w, p, by show 1 ≤ 34; decide⟩
    · rename_i q
      exact ⟨{ w with fl := by show f.toNat ≤ 31; omega }, ⟨p.aw, p.p0, p.p1, p.p2, p.p3⟩, by show 1 ≤ 34; decide⟩
  | allow x k m =>
    unfold mAllow
    split
    · refine ⟨{ w with al := by show (M.allowed.set _ _).length = 5; rw [List.length_set]; exact w.al, al0 := fun i hi => ?_, al3 := fun i h3 h5 => ?_ }, ⟨p.aw, p.p0, p.p1, p.p2, p.p3⟩, by show 1 ≤ 34; decide⟩
      · show ((M.allowed.set _ _).getD i []).length = 32
        rw [getD_set]
        split
        · rename_i z
          rw [List.length_set, ← z.1]
          exact w.al0 i hi
        · exact w.al0 i hi
      · show ((M.allowed.set _ _).getD i []).length = 1
        rw [getD_set]
        split
        · rename_i z
          rw [List.length_set, ← z.1]
          exact w.al3 i h3 h5
        · exact w.al3 i h3 h5
    · exact ⟨w, p, by show 1 ≤ 34; decide⟩
  | told => exact ⟨w, p, by show 7 ≤ 34; decide⟩

/-! ### one call as the specification does it -/
theorem step_some {s : Sa67.Abs} {c : Sa67Neutral.Call} {x : Sa67.Call} {s' : Sa67.Abs} {v : Int} {l : List Nat} (h : Sa67Neutral.callOf c = some x) (e : Sa67.does s x = (s', ⟨v, l⟩)) : Sa67Neutral.step s c = (s', v :: intsOf l) := by
  unfold Sa67Neutral.step
  rw [h]
  dsimp only
  rw [e]
  rfl
theorem within_eq {z lo hi : Int} : Sa67.within z lo hi = decide (lo ≤ z ∧ z ≤ hi) := by
  unfold Sa67.within
  by_cases h1 : lo ≤ z <;> by_cases h2 : z ≤ hi <;> simp [h1, h2]
theorem step_begin (s : Sa67.Abs) (M : Mir) {a : Int} (h : s = some (abs M) ∨ (0 ≤ a ∧ a ≤ 30)) : Sa67Neutral.step s [[0, a]] = (some (abs (mBegin M a).1), (mBegin M a).2) := by
  unfold mBegin
  by_cases q : a < 0 ∨ 30 < a
  · rw [if_pos q]
    have hs : s = some (abs M) := h.resolve_right (by omega)
    subst hs
    refine step_some (l := []) rfl ?_
    show (if Sa67.within a 0 30 = false then _ else _) = _
    rw [within_eq, decide_eq_false (by omega), if_pos rfl]
    rfl
  · rw [if_neg q]
    refine step_some (l := []) rfl ?_
    show (if Sa67.within a 0 30 = false then _ else _) = _
    rw [within_eq, decide_eq_true (by omega), if_neg (by decide), ← abs_begun]
    rfl
theorem step_word {M : Mir} (w : Wf M) (p : Ph M) (y g : Int) {v : Nat} (now : Nat) (hv : v < 65536) : Sa67Neutral.step (some (abs M)) [[1, y, (v : Int), g, (now : Int)]] = (some (abs (mWord M y v g now).1), (mWord M y v g now).2) := by
  unfold mWord
  have e : Sa67Neutral.callOf [[1, y, (v : Int), g, (now : Int)]] = some (.word y v g now) := by
    show some (Sa67.Call.word y (v : Int).toNat g (now : Int).toNat) = _
    rw [Int.toNat_natCast, Int.toNat_natCast]
  by_cases q : y = 0 ∨ y = 1
  · rw [if_pos q]
    refine step_some (l := []) e ?_
    show (if Sa67.within y 0 1 = false then _ else _) = _
    rw [within_eq, decide_eq_true (by omega), if_neg (by decide), abs_hear w p (by rcases q with rfl | rfl <;> simp) hv]
    rfl
  · rw [if_neg q]
    refine step_some (l := []) e ?_
    show (if Sa67.within y 0 1 = false then _ else _) = _
    rw [within_eq, decide_eq_false (by omega), if_pos rfl]
    rfl
theorem step_tick {M : Mir} (p : Ph M) (now : Nat) : Sa67Neutral.step (some (abs M)) [[2, (now : Int)]] = (some (abs (silence M now)), [0]) := by
  have e : Sa67Neutral.callOf [[2, (now : Int)]] = some (.tick now) := by
    show some (Sa67.Call.tick (now : Int).toNat) = _
    rw [Int.toNat_natCast]
  refine step_some (l := []) e ?_
  show (some (Sa67.late (abs M) now), _) = _
  rw [abs_silence M p now]
  rfl
theorem step_output (M : Mir) : Sa67Neutral.step (some (abs M)) [[3]] = (some (abs { M with toSend := [] }), (M.toSend.length : Int) :: intsOf M.toSend) :=
  step_some (l := M.toSend) rfl rfl
theorem nats_intsOf (l : List Nat) : Sa67Neutral.nats (intsOf l) = l := by
  unfold Sa67Neutral.nats intsOf
  rw [List.map_map]
  have : (Int.toNat ∘ fun (n : Nat) => (n : Int)) = id := by
    funext n
    exact Int.toNat_natCast n
  rw [this, List.map_id]
theorem step_give (M : Mir) (k : Int) (l : List Nat) : Sa67Neutral.step (some (abs M)) [[4, k], intsOf l] = (some (abs (mGive M k l).1), (mGive M k l).2) := by
  have e : Sa67Neutral.callOf [[4, k], intsOf l] = some (.give k l l.length) := by
    show some (Sa67.Call.give k (Sa67Neutral.nats (intsOf l)) (intsOf l).length) = _
    rw [nats_intsOf, intsOf_len]
  unfold mGive
  by_cases q : (0 ≤ k ∧ k ≤ 31) ∧ l.length ≤ 32
  · rw [if_pos q]
    refine step_some (l := []) e ?_
    show (if (Sa67.within k 0 31 && Sa67.within (l.length : Int) 0 32) = false then _ else _) = _
    rw [within_eq, within_eq, decide_eq_true q.1, decide_eq_true (by omega), if_neg (by decide)]
    rfl
  · rw [if_neg q]
    refine step_some (l := []) e ?_
    show (if (Sa67.within k 0 31 && Sa67.within (l.length : Int) 0 32) = false then _ else _) = _
    rw [within_eq, within_eq, if_pos]
    · rfl
    · by_cases h : 0 ≤ k ∧ k ≤ 31
      · rw [decide_eq_true h, decide_eq_false (by omega)]
        rfl
      · rw [decide_eq_false h]
        rfl
theorem step_get (M : Mir) (k : Int) : Sa67Neutral.step (some (abs M)) [[5, k]] = (some (abs (mGet M k).1), (mGet M k).2) := by
  unfold mGet
  by_cases q : 0 ≤ k ∧ k ≤ 31
  · rw [if_pos q]
    refine step_some (l := M.got.getD k.toNat []) rfl ?_
    show (if Sa67.within k 0 31 = false then _ else _) = _
    rw [within_eq, decide_eq_true q, if_neg (by decide)]
    rfl
  · rw [if_neg q]
    refine step_some (l := []) rfl ?_
    show (if Sa67.within k 0 31 = false then _ else _) = _
    rw [within_eq, decide_eq_false q, if_pos rfl]
    rfl
theorem step_flags (M : Mir) (f : Int) : Sa67Neutral.step (some (abs M)) [[6, f]] = (some (abs (mFlags M f).1), (mFlags M f).2) := by
  unfold mFlags
  by_cases q : f < 0 ∨ 31 < f
  · rw [if_pos q]
    refine step_some (l := []) rfl ?_
    show (if Sa67.within f 0 31 = false then _ else _) = _
    rw [within_eq, decide_eq_false (by omega), if_pos rfl]
    rfl
  · rw [if_neg q]
    refine step_some (l := []) rfl ?_
    show (if Sa67.within f 0 31 = false then _ else _) = _
    rw [within_eq, decide_eq_true (by omega), if_neg (by decide)]
    rfl
theorem allow_set {a : List (List Nat)} (h : a.length = 5) (h3 : ∀ i, 3 ≤ i → i < 5 → (a.getD i []).length = 1) {x k m : Nat} (hx : x < 5) (hk : 3 ≤ x → k = 0) :
    allowOf (a.set x ((a.getD x []).set k m)) = (allowOf a).set x (((allowOf a).getD x []).set k m) := by
  match a, h with
  | [a0, a1, a2, a3, a4], _ =>
    have l3 : a3.length = 1 := h3 3 (by omega) (by omega)
    have l4 : a4.length = 1 := h3 4 (by omega) (by omega)
    have : x = 0 ∨ x = 1 ∨ x = 2 ∨ x = 3 ∨ x = 4 := by omega
    rcases this with rfl | rfl | rfl | rfl | rfl
    · rfl
    · rfl
    · rfl
    · rw [hk (by omega)]
      match a3, l3 with
      | [b], _ => rfl
    · rw [hk (by omega)]
      match a4, l4 with
      | [b], _ => rfl
theorem step_allow {M : Mir} (w : Wf M) (x k : Int) (m : Nat) : Sa67Neutral.step (some (abs M)) [[7, x, k, (m : Int)]] = (some (abs (mAllow M x k m).1), (mAllow M x k m).2) := by
  have e : Sa67Neutral.callOf [[7, x, k, (m : Int)]] = some (.allow x k m) := by
    show some (Sa67.Call.allow x k (m : Int).toNat) = _
    rw [Int.toNat_natCast]
  have hb : hasAllowed x k = true ↔ ¬ ((Sa67.within x 0 4 && Sa67.within k 0 31) = false ∨ (3 ≤ x ∧ k ≠ 0)) := by
    unfold hasAllowed
    rw [within_eq, within_eq]
    by_cases h1 : x < 0 ∨ 4 < x
    · rw [if_pos h1, decide_eq_false (by omega)]
      simp
    · rw [if_neg h1, decide_eq_true (show 0 ≤ x ∧ x ≤ 4 by omega)]
      by_cases h3 : 3 ≤ x
      · rw [if_pos h3]
        by_cases hk : k = 0
        · subst hk
          simp
        · simp [hk, h3]
      · rw [if_neg h3]
        simp
        omega
  unfold mAllow
  by_cases q : hasAllowed x k = true
  · have q' := hb.mp q
    rw [if_pos q]
    refine step_some (l := []) e ?_
    show (if (Sa67.within x 0 4 && Sa67.within k 0 31) = false ∨ (3 ≤ x ∧ k ≠ 0) then _ else _) = _
    rw [if_neg q']
    rw [within_eq, within_eq] at q'
    simp at q'
    have ea := allow_set w.al w.al3 (x := x.toNat) (k := k.toNat) (m := m) (by omega) (fun h => by have := q'.2 (by omega); omega)
    show (some ({ abs M with allow := (allowOf M.allowed).set x.toNat (((allowOf M.allowed).getD x.toNat []).set k.toNat m) } : St), _) = (some ({ abs M with allow := allowOf (M.allowed.set x.toNat ((M.allowed.getD x.toNat []).set k.toNat m)) } : St), _)
    rw [ea]
    rfl
  · rw [if_neg q]
    refine step_some (l := []) e ?_
    show (if (Sa67.within x 0 4 && Sa67.within k 0 31) = false ∨ (3 ≤ x ∧ k ≠ 0) then _ else _) = _
    rw [if_pos (Classical.not_not.mp (fun z => q (hb.mpr z)))]
    rfl
theorem step_told {M : Mir} (w : Wf M) : Sa67Neutral.step (some (abs M)) [[8]] = (some (abs M), mTold M) := by
  refine step_some (l := [M.lastStatus, M.lastCommand, M.step, M.off, M.messages, M.errors]) rfl ?_
  show (some (abs M), (⟨0, [M.lastStatus, M.lastCommand, M.step, if (M.off == 1) = true then 1 else 0, M.messages, M.errors]⟩ : Sa67.Ans)) = _
  have : (if (M.off == 1) = true then 1 else 0) = M.off := by
    have h := w.of
    have : M.off = 0 ∨ M.off = 1 := by omega
    rcases this with e | e <;> rw [e] <;> rfl
  rw [this]
end Bt
end
section
set_option Elab.async false
set_option linter.all false
set_option maxRecDepth 100000
/-! A line of calls, number by number. -/
namespace Bt
open PySa67 (shape)
theorem whole_id (c : List (List Int)) : PySa67.whole c = c := by
  unfold PySa67.whole
  split <;> rfl
theorem whole_map (cs : List (List (List Int))) : cs.map PySa67.whole = cs := by
  have : PySa67.whole = id := by
    funext c
    exact whole_id c
  rw [this, List.map_id]
theorem call0 {p : Int} {r : List Int} {c : List (List Int)} {t : List Int} {n : Nat} (hs : shape p = some (n, 0)) (h : PyFlat.call shape (p :: r) = some (c, t)) : n ≤ r.length ∧ c = [p :: r.take n] ∧ t = r.drop n := by
  unfold PyFlat.call at h
  dsimp only at h
  rw [hs] at h
  dsimp only at h
  by_cases q : r.length < n
  · rw [if_pos q] at h
    cases h
  · rw [if_neg q] at h
    unfold PyFlat.rows at h
    dsimp only at h
    have h := Option.some.inj h
    exact ⟨by omega, (congrArg Prod.fst h).symm, (congrArg Prod.snd h).symm⟩
theorem call1 {p : Int} {r : List Int} {c : List (List Int)} {t : List Int} {n : Nat} (hs : shape p = some (n, 1)) (h : PyFlat.call shape (p :: r) = some (c, t)) : n ≤ r.length ∧ ∃ x, PyFlat.row (r.drop n) = some (x, t) ∧ c = [p :: r.take n, x] := by
  unfold PyFlat.call at h
  dsimp only at h
  rw [hs] at h
  dsimp only at h
  by_cases q : r.length < n
  · rw [if_pos q] at h
    cases h
  · rw [if_neg q] at h
    unfold PyFlat.rows at h
    cases e : PyFlat.row (r.drop n) with
    | none =>
      rw [e] at h
      cases h
    | some x =>
      obtain ⟨x, s⟩ := x
      rw [e] at h
      unfold PyFlat.rows at h
      dsimp only at h
      have h := Option.some.inj h
      have h2 : s = t := congrArg Prod.snd h
      subst h2
      exact ⟨by omega, x, rfl, (congrArg Prod.fst h).symm⟩
def LenAt (q : List Int) (L : Nat) : Prop := ∃ i : Nat, i < 9 ∧ q[0]? = some (i : Int) ∧ ((i = 4 ∧ ∃ z : Int, q[2]? = some z ∧ 3 + z = (L : Int)) ∨ (i ≠ 4 ∧ ([2, 5, 2, 1, 3, 2, 2, 4, 1] : List Nat)[i]? = some L))
theorem one_of {r : List Int} (h : 1 ≤ r.length) : ∃ x t, r = x :: t := by
  cases r with
  | nil => simp at h
  | cons x t => exact ⟨x, t, rfl⟩
theorem three_of {r : List Int} (h : 3 ≤ r.length) : ∃ x y z t, r = x :: y :: z :: t := by
  match r, h with
  | x :: y :: z :: t, _ => exact ⟨x, y, z, t, rfl⟩
theorem four_of {r : List Int} (h : 4 ≤ r.length) : ∃ x y z u t, r = x :: y :: z :: u :: t := by
  match r, h with
  | x :: y :: z :: u :: t, _ => exact ⟨x, y, z, u, t, rfl⟩
theorem nat_of {z : Int} {hi : Int} (h : NeutralIO.within z 0 hi = true) : ∃ n : Nat, z = (n : Int) ∧ (n : Int) ≤ hi := by
  unfold NeutralIO.within at h
  rw [Bool.and_eq_true] at h
  have h1 := of_decide_eq_true h.1
  have h2 := of_decide_eq_true h.2
  exact ⟨z.toNat, by omega, by omega⟩
theorem nats_of : ∀ {l : List Int}, l.all Sa67Neutral.word = true → ∃ m : List Nat, l = intsOf m ∧ ∀ x ∈ m, x < 65536
  | [], _ => ⟨[], rfl, fun x hx => by cases hx⟩
  | z :: l, h => by
    rw [List.all_cons, Bool.and_eq_true] at h
    obtain ⟨n, rfl, hn⟩ := nat_of (show NeutralIO.within z 0 65535 = true from h.1)
    obtain ⟨m, rfl, hm⟩ := nats_of h.2
    refine ⟨n :: m, rfl, fun x hx => ?_⟩
    rcases List.mem_cons.mp hx with e | e
    · subst e
      omega
    · exact hm x e
/-- one call of a line, read off its numbers -/
theorem line_step {M : Mir} (w : Wf M) (ph : Ph M) {p : Int} {r : List Int} {c : List (List Int)} {t : List Int} (h : PyFlat.call shape (p :: r) = some (c, t)) (ask : Sa67Neutral.asked1 c = true) :
    ∃ cl M' l, p :: r = cl ++ t ∧ CallOf M cl M' l ∧ LenAt (p :: r) cl.length ∧ Sa67Neutral.step (some (abs M)) c = (some (abs M'), l) ∧ (∀ a, c = [[0, a]] → 0 ≤ a → a ≤ 30 → Sa67Neutral.step none c = (some (abs M'), l)) := by
  by_cases h0 : p = 0
  · subst h0
    obtain ⟨hn, rfl, rfl⟩ := call0 (n := 1) rfl h
    obtain ⟨x, t, rfl⟩ := one_of hn
    exact ⟨[0, x], _, _, rfl, .begin x, ⟨0, by decide, rfl, .inr ⟨by decide, rfl⟩⟩, step_begin _ M (.inl rfl), fun a e ha hb => by
      have e : x = a := by simpa using e
      subst e
      exact step_begin _ M (.inr ⟨ha, hb⟩)⟩
  by_cases h1 : p = 1
  · subst h1
    obtain ⟨hn, rfl, rfl⟩ := call0 (n := 4) rfl h
    obtain ⟨y, v, g, now, t, rfl⟩ := four_of hn
    have ask : (Sa67Neutral.whole32 y && (Sa67Neutral.word v && (Sa67Neutral.whole32 g && Sa67Neutral.time now))) = true := ask
    rw [Bool.and_eq_true, Bool.and_eq_true, Bool.and_eq_true] at ask
    obtain ⟨v, rfl, hv⟩ := nat_of (show NeutralIO.within v 0 65535 = true from ask.2.1)
    obtain ⟨now, rfl, hnow⟩ := nat_of (show NeutralIO.within now 0 4294967295 = true from ask.2.2.2)
    exact ⟨[1, y, (v : Int), g, (now : Int)], _, _, rfl, .word y g v now (by omega) (by omega), ⟨1, by decide, rfl, .inr ⟨by decide, rfl⟩⟩, step_word w ph y g now (by omega), fun a e => by simp at e⟩
  by_cases h2 : p = 2
  · subst h2
    obtain ⟨hn, rfl, rfl⟩ := call0 (n := 1) rfl h
    obtain ⟨now, t, rfl⟩ := one_of hn
    obtain ⟨now, rfl, hnow⟩ := nat_of (show NeutralIO.within now 0 4294967295 = true from ask)
    exact ⟨[2, (now : Int)], _, _, rfl, .tick now, ⟨2, by decide, rfl, .inr ⟨by decide, rfl⟩⟩, step_tick ph now, fun a e => by simp at e⟩
  by_cases h3 : p = 3
  · subst h3
    obtain ⟨hn, rfl, rfl⟩ := call0 (n := 0) rfl h
    exact ⟨[3], _, _, rfl, .output, ⟨3, by decide, rfl, .inr ⟨by decide, rfl⟩⟩, step_output M, fun a e => by simp at e⟩
  by_cases h4 : p = 4
  · subst h4
    obtain ⟨hn, x, hx, rfl⟩ := call1 (n := 1) rfl h
    obtain ⟨k, r, rfl⟩ := one_of hn
    have hx : PyFlat.row r = some (x, t) := hx
    cases r with
    | nil => cases hx
    | cons z r =>
      unfold PyFlat.row at hx
      dsimp only at hx
      by_cases q : 0 ≤ z ∧ z.toNat ≤ r.length
      · rw [if_pos q] at hx
        have hx := Option.some.inj hx
        have e1 : r.take z.toNat = x := congrArg Prod.fst hx
        have e2 : r.drop z.toNat = t := congrArg Prod.snd hx
        have el : x.length = z.toNat := by rw [← e1, List.length_take]; omega
        have er : r = x ++ t := by rw [← e1, ← e2, List.take_append_drop]
        have ask : (Sa67Neutral.whole32 k && (decide (x.length ≤ 40) && x.all Sa67Neutral.word)) = true := ask
        rw [Bool.and_eq_true, Bool.and_eq_true] at ask
        obtain ⟨l, hl, hlt⟩ := nats_of ask.2.2
        have l40 := of_decide_eq_true ask.2.1
        subst hl
        rw [intsOf_len] at el l40
        have ez : z = (l.length : Int) := by omega
        subst ez
        refine ⟨4 :: k :: (l.length : Int) :: intsOf l, _, _, by rw [er]; rfl, .give k l hlt l40, ⟨4, by decide, rfl, .inl ⟨rfl, _, rfl, ?_⟩⟩, step_give M k l, fun a e => by simp at e⟩
        rw [List.length_cons, List.length_cons, List.length_cons, intsOf_len]
        omega
      · rw [if_neg q] at hx
        cases hx
  by_cases h5 : p = 5
  · subst h5
    obtain ⟨hn, rfl, rfl⟩ := call0 (n := 1) rfl h
    obtain ⟨k, t, rfl⟩ := one_of hn
    exact ⟨[5, k], _, _, rfl, .get k, ⟨5, by decide, rfl, .inr ⟨by decide, rfl⟩⟩, step_get M k, fun a e => by simp at e⟩
  by_cases h6 : p = 6
  · subst h6
    obtain ⟨hn, rfl, rfl⟩ := call0 (n := 1) rfl h
    obtain ⟨k, t, rfl⟩ := one_of hn
    exact ⟨[6, k], _, _, rfl, .flags k, ⟨6, by decide, rfl, .inr ⟨by decide, rfl⟩⟩, step_flags M k, fun a e => by simp at e⟩
  by_cases h7 : p = 7
  · subst h7
    obtain ⟨hn, rfl, rfl⟩ := call0 (n := 3) rfl h
    obtain ⟨x, k, m, t, rfl⟩ := three_of hn
    have ask : (Sa67Neutral.whole32 x && (Sa67Neutral.whole32 k && Sa67Neutral.time m)) = true := ask
    rw [Bool.and_eq_true, Bool.and_eq_true] at ask
    obtain ⟨m, rfl, hm⟩ := nat_of (show NeutralIO.within m 0 4294967295 = true from ask.2.2)
    exact ⟨[7, x, k, (m : Int)], _, _, rfl, .allow x k m, ⟨7, by decide, rfl, .inr ⟨by decide, rfl⟩⟩, step_allow w x k m, fun a e => by simp at e⟩
  by_cases h8 : p = 8
  · subst h8
    obtain ⟨hn, rfl, rfl⟩ := call0 (n := 0) rfl h
    exact ⟨[8], _, _, rfl, .told, ⟨8, by decide, rfl, .inr ⟨by decide, rfl⟩⟩, step_told w, fun a e => by simp at e⟩
  · have e : shape p = none := by
      unfold shape
      rw [if_neg h0, if_neg h1, if_neg h2, if_neg h3, if_neg h4, if_neg h5, if_neg h6, if_neg h7, if_neg h8]
    unfold PyFlat.call at h
    dsimp only at h
    rw [e] at h
    cases h
/-- what is left of a line at place k, out answered -/
structure Left (ns : List Int) (k : Nat) (out : List Int) (M : Mir) : Prop where
  wf : Wf M
  ph : Ph M
  le : k ≤ ns.length
  ex : ∃ (cs : List (List (List Int))) (f : Nat) (st : Sa67.Abs), PyFlat.calls shape f (ns.drop k) = some cs ∧ (∀ c ∈ cs, Sa67Neutral.asked1 c = true) ∧ PySa67.answers ns = out ++ PyFlat.told (PyFlat.played Sa67Neutral.step st cs) ∧ out.length + 35 * cs.length ≤ 700000 ∧
    (st = some (abs M) ∨ (st = none ∧ ∃ a r, cs = [[0, a]] :: r ∧ 0 ≤ a ∧ a ≤ 30))
theorem Left.start {ns : List Int} (h : PySa67.answers_asked ns = true) : Left ns 0 [] (begun 0) := by
  refine ⟨.begun (by omega), .begun 0, Nat.zero_le _, ?_⟩
  unfold PySa67.answers_asked PySa67.calls at h
  unfold PySa67.answers PySa67.calls
  cases e : PyFlat.calls shape ns.length ns with
  | none =>
    rw [e] at h
    cases h
  | some cs =>
    rw [e] at h
    dsimp only at h ⊢
    rw [whole_map] at h ⊢
    rw [Bool.and_eq_true] at h
    have h2 := h.2
    unfold Sa67Neutral.asked at h2
    rw [Bool.and_eq_true, Bool.and_eq_true] at h2
    have hl := of_decide_eq_true h2.2.1
    refine ⟨cs, ns.length, none, by rw [List.drop_zero]; exact e, fun c hc => List.all_eq_true.mp h2.1 c hc, rfl, by show 0 + 35 * cs.length ≤ 700000; omega, .inr ⟨rfl, ?_⟩⟩
    have h3 := h2.2.2
    split at h3
    · rename_i a r
      obtain ⟨n, rfl, hn⟩ := nat_of h3
      exact ⟨_, _, rfl, by omega, hn⟩
    · cases h3
theorem Left.next {ns : List Int} {k : Nat} {out : List Int} {M : Mir} (L : Left ns k out M) (hk : k < ns.length) :
    ∃ cl M' l, ns.drop k = cl ++ ns.drop (k + cl.length) ∧ CallOf M cl M' l ∧ LenAt (ns.drop k) cl.length ∧ 0 < cl.length ∧ Left ns (k + cl.length) (out ++ (l.length : Int) :: l) M' ∧ out.length + 35 ≤ 700000 ∧ l.length ≤ 34 := by
  obtain ⟨cs, f, st, hc, ha, hans, hlen, hst⟩ := L.ex
  cases e : ns.drop k with
  | nil =>
    have := congrArg List.length e
    rw [List.length_drop] at this
    simp at this
    omega
  | cons p r =>
    rw [e] at hc
    cases f with
    | zero => cases hc
    | succ f =>
      unfold PyFlat.calls at hc
      cases e2 : PyFlat.call shape (p :: r) with
      | none =>
        rw [e2] at hc
        cases hc
      | some ct =>
        obtain ⟨c, t⟩ := ct
        rw [e2] at hc
        dsimp only at hc
        cases e3 : PyFlat.calls shape f t with
        | none =>
          rw [e3] at hc
          cases hc
        | some cs' =>
          rw [e3] at hc
          dsimp only at hc
          have hc := (Option.some.inj hc).symm
          subst hc
          obtain ⟨cl, M', l, hcl, hcall, hL, hs, hb⟩ := line_step L.wf L.ph e2 (ha c List.mem_cons_self)
          obtain ⟨w', p', hl⟩ := L.wf.call L.ph hcall
          have hst' : Sa67Neutral.step st c = (some (abs M'), l) := by
            rcases hst with rfl | ⟨rfl, a, r', ec, a0, a1⟩
            · exact hs
            · exact hb a (List.cons.inj ec).1 a0 a1
          have hlp : (p :: r).length = cl.length + t.length := by rw [hcl, List.length_append]
          have hlen2 : (p :: r).length = ns.length - k := by rw [← e, List.length_drop]
          have hpos : 0 < cl.length := by
            cases hcall <;> simp
          have et : t = ns.drop (k + cl.length) := by
            rw [← List.drop_drop, e, hcl, List.drop_left]
          refine ⟨cl, M', l, by rw [hcl, ← et], hcall, hL, hpos, ⟨w', p', by omega, cs', f, some (abs M'), by rw [← et]; exact e3, fun c hc => ha c (List.mem_cons_of_mem _ hc), ?_, ?_, .inl rfl⟩, ?_, hl⟩
          · rw [hans]
            show out ++ PyFlat.told ((Sa67Neutral.step st c).2 :: PyFlat.played Sa67Neutral.step (Sa67Neutral.step st c).1 cs') = _
            rw [hst']
            unfold PyFlat.told
            rw [List.flatMap_cons, List.append_assoc]
          · rw [List.length_append, List.length_cons]
            rw [List.length_cons] at hlen
            omega
          · rw [List.length_cons] at hlen
            omega
theorem Left.fin {ns : List Int} {k : Nat} {out : List Int} {M : Mir} (L : Left ns k out M) (hk : ¬ k < ns.length) : out = PySa67.answers ns := by
  obtain ⟨cs, f, st, hc, ha, hans, hlen, hst⟩ := L.ex
  have e : ns.drop k = [] := List.drop_eq_nil_of_le (by omega)
  rw [e] at hc
  have hc : some [] = some cs := by
    cases f <;> exact hc
  have hc := Option.some.inj hc
  subst hc
  rw [hans]
  show out = out ++ []
  rw [List.append_nil]
end Bt
end
section
set_option Elab.async false
set_option linter.all false
set_option maxRecDepth 100000
set_option maxHeartbeats 4000000
/-! The terminal on the heap; the rules that its defs are walked by. -/
namespace Bt
open PySem PySem.Spec PyProof.Rows L2

/-! ### the text by places -/
def top (i : Nat) : Stmt := PySem.Challenge.pw_busterminal_s01_answers.main.body.getD i (.Pass ⟨0, 0, 0, 0⟩)

/-! ### a def of the top -/
structure Glob (K : PySem.W.Frag) (mg : Str → Option Value) (x : Str) (st : Stmt) : Prop where
  ex : ∃ (f : Addr) (fd : FuncData), mg x = some (.ref f) ∧ Fun K x x st f fd
structure Kn (P : Program) (w : World) (K : PySem.W.Frag) (mg : Str → Option Value) (base : Heap) (k : Nat) (x : Str) (ps : List Str) (sp : Sp) : Prop where
  ex : ∃ (f : Addr) (fd : FuncData), mg x = some (.ref f) ∧ PySem.W.keepIn K (.ref f) = true ∧ Binds K fd ps [] ∧ FnOk P w K mg base CX0 k f fd ps sp
/-- a whole number of the top -/
def Cn (mg : Str → Option Value) (x : Str) (i : Int) : Prop := ∃ t, mg x = some (.int i t)
section
variable {P : Program} {w : World} {K : PySem.W.Frag} {mg : Str → Option Value} {base : Heap}
theorem glob_mk {h : Heap} {x : Str} {st : Stmt} {f : Addr} {oc : Value} {od an : Option Addr} {osl : Array (Option Value)} {kV doc pm cdv ct : Value} (X : K.In h) (G : h.Ns mainGlobals mg)
    (a : PySem.W.nsIn K mainGlobals x = some (some (.ref f))) (l : K.lookup f = some ⟨oc, od, .func (PySem.W.fnOf x x (defArgs st) (defBody st) (defScope st) .none kV doc pm an cdv ct), osl⟩)
    (c : PySem.W.codeIn K cdv x = true) (k : PySem.W.keepIn K (.ref f) = true) : Glob K mg x st := ⟨⟨f, _, PySem.W.mg_of X G a, fun_mk l c k⟩⟩
theorem cn_mk {h : Heap} {x : Str} {i : Int} {t : Tok} (X : K.In h) (G : h.Ns mainGlobals mg) (a : PySem.W.nsIn K mainGlobals x = some (some (.int i t))) : Cn mg x i := ⟨t, PySem.W.mg_of X G a⟩
theorem Glob.kn {x : Str} {st : Stmt} {N ps : List Str} {k : Nat} {sp : Sp} (G : Glob K mg x st) (S : FnScope N ps (defScope st))
    (bi : ∀ (kV doc pm : Value) (an : Option Addr) (cdv ct : Value) (us : List Value), us.length = ps.length → bindArgs (PySem.W.fnOf x x (defArgs st) (defBody st) (defScope st) .none kV doc pm an cdv ct) ⟨us, []⟩ = pure (ps.zip us))
    (len : ∀ vs H Q E, sp vs H Q E → vs.length = ps.length)
    (hbody : ∀ (f : Addr) (cdv : Value) (A : Around) (outer : List Env) (s : Shared) (H : Hp) (vs : List V) (Q : VK) (E : XK), Room k (A.deeper (envOfC x (defScope st) s.heap.objs.size f cdv)) → sp vs H Q E →
      ∃ t, PSs (cxOf CX0 P w K mg base N x (defScope st) f cdv A outer s H E).nox (defBody st) t ∧ t { nx := fun _ H' => Q .non H', rt := Q } (start N vs) H) : Kn P w K mg base (k + 1) x ps sp := by
  obtain ⟨f, fd, hm, F⟩ := G.ex
  exact ⟨f, fd, hm, F.kp, F.binds bi, F.ok S len fun cdv A outer s H vs Q E hr h => hbody f cdv A outer s H vs Q E hr h⟩
theorem Kn.imp {x : Str} {ps : List Str} {k : Nat} {sp sp' : Sp} (F : Kn P w K mg base k x ps sp) (h : ∀ vs H Q E, sp' vs H Q E → sp vs H Q E) : Kn P w K mg base k x ps sp' := by
  obtain ⟨f, fd, a, b, c, d⟩ := F.ex
  exact ⟨f, fd, a, b, c, d.imp h⟩
end
section
variable {X : Cx} {j k : Nat} {x : Str} {ps : List Str} {sp : Sp} {e : Expr} {es : List Expr} {t : TA} {p pos : Pos}
theorem pe_kn (F : Kn X.prog X.w X.K X.mg X.base j x ps sp) (hr : Room k X.A) (ha : PA X (e :: es) t) (hj : j ≤ k := by decide) (hg : Gl X x := by rfl) (hdb : (x == ("__debug__" : Str)) = false := by decide)
    (he : starEach (e :: es) X.env = (false, eval e X.env) :: starEach es X.env := by rfl) (hpl : (backTo pos (starEach es X.env)).any (·.1) = false := by rfl) : PE X (.Call (.Name x p) (e :: es) [] pos) (tCall sp [] E0 t) := by
  obtain ⟨f, fd, a, b, c, d⟩ := F.ex
  exact pe_call d (hr.mono hj) hg a b c .nil pass0 ha hdb he hpl
theorem pe_kn0 (F : Kn X.prog X.w X.K X.mg X.base j x ps sp) (hr : Room k X.A) (hj : j ≤ k := by decide) (hg : Gl X x := by rfl) (hdb : (x == ("__debug__" : Str)) = false := by decide) : PE X (.Call (.Name x p) [] [] pos) (tCall sp [] E0 tNil) := by
  obtain ⟨f, fd, a, b, c, d⟩ := F.ex
  exact pe_call0 d (hr.mono hj) hg a b c .nil pass0 hdb
theorem pe_cn {i : Int} (h : Cn X.mg x i) (hg : Gl X x := by rfl) (hd : (x == ("__debug__" : Str)) = false := by decide) : PE X (.Name x pos) (tC (.int i)) := by
  obtain ⟨u, hu⟩ := h
  exact pe_glob hg hu ⟨u, rfl⟩ hd
end

/-! ### attributes by places -/
theorem zip_lookup {f : Str} {v : V} : ∀ {N : List Str} {vs : List V} {i : Nat}, N.Nodup → N[i]? = some f → vs[i]? = some v → (N.zip vs).lookup f = some v
  | [], _, _, _, h, _ => by simp at h
  | _ :: _, [], _, _, _, h => by simp at h
  | n :: N, u :: vs, 0, nd, h1, h2 => by
    have e1 : n = f := Option.some.inj h1
    have e2 : u = v := Option.some.inj h2
    subst e1 e2
    show List.lookup n ((n, u) :: N.zip vs) = _
    simp [List.lookup]
  | n :: N, u :: vs, i + 1, nd, h1, h2 => by
    have hm : f ∈ N := List.mem_of_getElem? (show N[i]? = some f from h1)
    have ne : ¬ f = n := fun e => (List.nodup_cons.mp nd).1 (e ▸ hm)
    have hb : (f == n) = false := beq_eq_false_iff_ne.mpr ne
    show List.lookup f ((n, u) :: N.zip vs) = _
    simp only [List.lookup, hb]
    exact zip_lookup (i := i) (List.nodup_cons.mp nd).2 h1 h2
theorem zip_lookup_none {f : Str} : ∀ {N : List Str} {vs : List V}, ¬ f ∈ N → (N.zip vs).lookup f = none
  | [], _, _ => by simp
  | _ :: _, [], _ => by simp
  | n :: N, u :: vs, h => by
    have hb : (f == n) = false := beq_eq_false_iff_ne.mpr fun e => h (by rw [e]; exact List.mem_cons_self)
    show List.lookup f ((n, u) :: N.zip vs) = _
    simp only [List.lookup, hb]
    exact zip_lookup_none fun m => h (List.mem_cons_of_mem _ m)
theorem zip_put {f : Str} {v : V} : ∀ {N : List Str} {vs : List V} {i : Nat}, N.Nodup → N[i]? = some f → i ≤ vs.length → putF f v (N.zip vs) = N.zip (vs.take i ++ v :: vs.drop (i + 1))
  | [], _, _, _, h, _ => by simp at h
  | n :: N, [], 0, nd, h, _ => by
    have e1 : n = f := Option.some.inj h
    subst e1
    show [(n, v)] = (n, v) :: N.zip []
    rw [List.zip_nil_right]
  | n :: N, [], i + 1, nd, h, hl => by simp at hl
  | n :: N, u :: vs, 0, nd, h, _ => by
    have e1 : n = f := Option.some.inj h
    subst e1
    show (if n = n then _ else _) = _
    rw [if_pos rfl]
    rfl
  | n :: N, u :: vs, i + 1, nd, h, hl => by
    have hm : f ∈ N := List.mem_of_getElem? (show N[i]? = some f from h)
    have ne : ¬ n = f := fun e => (List.nodup_cons.mp nd).1 (e ▸ hm)
    show (if n = f then _ else (n, u) :: putF f v (N.zip vs)) = _
    rw [if_neg ne, zip_put (i := i) (List.nodup_cons.mp nd).2 h (Nat.le_of_succ_le_succ hl)]
    rfl

/-! ### the terminal on the heap -/
def names : List Str := ["address", "flags", "allowed", "given", "got", "messages", "errors", "last_command", "last_status", "step", "error", "to_all", "other_wire_off", "hushed", "to_send", "awaited", "command", "heard_at", "sender", "taken"]
theorem names_nd : names.Nodup := by decide +kernel
structure Ad where
  dx : Addr
  al : Addr
  gi : Addr
  go : Addr
  se : Addr
  ta : Addr
  alI : Nat → Addr
  giI : Nat → Addr
  goI : Nat → Addr
def vals (M : Mir) (A : Ad) : List V :=
  [.int M.address, .int M.flags, .ref A.al, .ref A.gi, .ref A.go, .int M.messages, .int M.errors, .int M.lastCommand, .int M.lastStatus, .int M.step, .int M.error, .int M.toAll, .int M.off, .int M.hushed, .ref A.se, .int M.awaited, .int M.command, .int M.heardAt, .int M.sender, .ref A.ta]
def nums (l : List Nat) : List V := l.map fun (n : Nat) => V.int (n : Int)
def refs (n : Nat) (f : Nat → Addr) : List V := (List.range n).map fun i => V.ref (f i)
theorem nums_len (l : List Nat) : (nums l).length = l.length := by unfold nums; rw [List.length_map]
theorem refs_len (n : Nat) (f : Nat → Addr) : (refs n f).length = n := by unfold refs; rw [List.length_map, List.length_range]
theorem refs_get {n i : Nat} (f : Nat → Addr) (h : i < n) : (refs n f)[i]? = some (V.ref (f i)) := by
  unfold refs
  rw [List.getElem?_map, List.getElem?_range h]
  rfl
theorem nums_get {l : List Nat} {i n : Nat} (h : l[i]? = some n) : (nums l)[i]? = some (V.int (n : Int)) := by
  unfold nums
  rw [List.getElem?_map, h]
  rfl
theorem refs_set {n k : Nat} (f : Nat → Addr) (a : Addr) : (refs n f).set k (V.ref a) = refs n (fun i => if i = k then a else f i) := by
  unfold refs
  apply List.ext_getElem?
  intro i
  rw [List.getElem?_set, List.getElem?_map, List.getElem?_map]
  by_cases e : k = i
  · subst e
    by_cases h : k < n
    · rw [if_pos rfl, List.length_map, List.length_range, if_pos h, List.getElem?_range h]
      simp
    · rw [if_pos rfl, List.length_map, List.length_range, if_neg h, List.getElem?_eq_none (by rw [List.length_range]; omega)]
      rfl
  · rw [if_neg e]
    by_cases h : i < n
    · rw [List.getElem?_range h]
      have e' : ¬ i = k := fun q => e q.symm
      simp [e']
    · rw [List.getElem?_eq_none (by rw [List.length_range]; omega)]
      rfl
theorem nums_set (l : List Nat) (k n : Nat) : (nums l).set k (V.int (n : Int)) = nums (l.set k n) := by
  unfold nums
  rw [List.map_set]
/-- the terminal M stands at p; g: whose an address is (0: nobody's) -/
structure TermAt (C : Addr) (H : Hp) (p : Addr) (M : Mir) (A : Ad) (g : Addr → Nat) : Prop where
  ins : H p = some (.ins C A.dx (names.zip (vals M A)))
  al : H A.al = some (.lst (refs 5 A.alI))
  gi : H A.gi = some (.lst (refs 32 A.giI))
  go : H A.go = some (.lst (refs 32 A.goI))
  se : H A.se = some (.lst (nums M.toSend))
  ta : H A.ta = some (.lst (nums M.taken))
  alI : ∀ i, i < 5 → H (A.alI i) = some (.lst (nums (M.allowed.getD i [])))
  giI : ∀ i, i < 32 → H (A.giI i) = some (.lst (nums (M.given.getD i [])))
  goI : ∀ i, i < 32 → H (A.goI i) = some (.lst (nums (M.got.getD i [])))
  gp : g p = 1
  gal : g A.al = 2
  ggi : g A.gi = 3
  ggo : g A.go = 4
  gse : g A.se = 5
  gta : g A.ta = 6
  galI : ∀ i, i < 5 → g (A.alI i) = 10 + i
  ggiI : ∀ i, i < 32 → g (A.giI i) = 100 + i
  ggoI : ∀ i, i < 32 → g (A.goI i) = 200 + i
  fr : ∀ b, H b = none → g b = 0
/-- what is nobody's stays as it is -/
def Frm (H : Hp) (g : Addr → Nat) (H' : Hp) (g' : Addr → Nat) : Prop := ∀ b o, H b = some o → g b = 0 → H' b = some o ∧ g' b = 0
theorem Frm.refl (H : Hp) (g : Addr → Nat) : Frm H g H g := fun _ _ h z => ⟨h, z⟩
theorem Frm.trans {H H1 H2 : Hp} {g g1 g2 : Addr → Nat} (a : Frm H g H1 g1) (b : Frm H1 g1 H2 g2) : Frm H g H2 g2 := fun c o h z => b c o (a c o h z).1 (a c o h z).2
theorem Frm.same {H H1 : Hp} (g : Addr → Nat) (e : Same H H1) : Frm H g H1 g := fun b o h z => ⟨e b o h, z⟩
theorem same_new {H : Hp} {l : Addr} {o : HO} (h : H l = none) : Same H (upd H l o) := fun b u e => by
  rw [upd_ne (ne_of_none e h)]
  exact e
theorem ne_tag {g : Addr → Nat} {a b : Addr} {x y : Nat} (ha : g a = x) (hb : g b = y) (h : x ≠ y) : a ≠ b := fun e => h (by rw [← ha, ← hb, e])
section
variable {C : Addr} {H H' : Hp} {p : Addr} {M : Mir} {A : Ad} {g : Addr → Nat}
theorem TermAt.grow (T : TermAt C H p M A g) (e : Same H H') : TermAt C H' p M A g :=
  ⟨e _ _ T.ins, e _ _ T.al, e _ _ T.gi, e _ _ T.go, e _ _ T.se, e _ _ T.ta, fun i h => e _ _ (T.alI i h), fun i h => e _ _ (T.giI i h), fun i h => e _ _ (T.goI i h), T.gp, T.gal, T.ggi, T.ggo, T.gse, T.gta, T.galI, T.ggiI, T.ggoI, fun b h => T.fr b (e.free h)⟩
theorem upd_none {H : Hp} {a b : Addr} {o : HO} (h : upd H a o b = none) : H b = none := by
  by_cases e : b = a
  · subst e
    rw [upd_same] at h
    cases h
  · rwa [upd_ne e] at h
/-- one owned place is written anew, all others stand -/
theorem TermAt.fld {M' : Mir} {fs : List (Str × V)} (T : TermAt C H p M A g) (e : names.zip (vals M' A) = fs) (h1 : M'.allowed = M.allowed) (h2 : M'.given = M.given) (h3 : M'.got = M.got) (h4 : M'.toSend = M.toSend) (h5 : M'.taken = M.taken) :
    TermAt C (upd H p (.ins C A.dx fs)) p M' A g := by
  have n : ∀ {b : Addr} {x : Nat}, g b = x → x ≠ 1 → b ≠ p := fun hb hx => ne_tag hb T.gp hx
  refine ⟨by rw [upd_same, ← e], by rw [upd_ne (n T.gal (by decide))]; exact T.al, by rw [upd_ne (n T.ggi (by decide))]; exact T.gi, by rw [upd_ne (n T.ggo (by decide))]; exact T.go, by rw [upd_ne (n T.gse (by decide)), h4]; exact T.se, by rw [upd_ne (n T.gta (by decide)), h5]; exact T.ta,
    fun i h => by rw [upd_ne (n (T.galI i h) (by omega)), h1]; exact T.alI i h, fun i h => by rw [upd_ne (n (T.ggiI i h) (by omega)), h2]; exact T.giI i h, fun i h => by rw [upd_ne (n (T.ggoI i h) (by omega)), h3]; exact T.goI i h, T.gp, T.gal, T.ggi, T.ggo, T.gse, T.gta, T.galI, T.ggiI, T.ggoI, fun b h => T.fr b (upd_none h)⟩
theorem TermAt.frm (T : TermAt C H p M A g) {a : Addr} {o : HO} (h : g a ≠ 0) : Frm H g (upd H a o) g := fun b u e z => by
  rw [upd_ne (fun q => h (by rw [← q]; exact z))]
  exact ⟨e, z⟩
def retag (g : Addr → Nat) (w old : Addr) (r : Nat) : Addr → Nat := fun x => if x = w then r else if x = old then 0 else g x
theorem retag_at {g : Addr → Nat} {w old x : Addr} {r t : Nat} (h : g x = t) (hw : g w = 0) (ho : g old = r) (t0 : t ≠ 0) (tr : t ≠ r) : retag g w old r x = t := by
  unfold retag
  rw [if_neg (ne_tag h hw t0), if_neg (ne_tag h ho tr), h]
theorem retag_new {g : Addr → Nat} {w old : Addr} {r : Nat} : retag g w old r w = r := by
  unfold retag
  rw [if_pos rfl]
theorem retag_old {g : Addr → Nat} {w old : Addr} {r : Nat} (h : old ≠ w) : retag g w old r old = 0 := by
  unfold retag
  rw [if_neg h, if_pos rfl]
theorem retag_zero {g : Addr → Nat} {w old b : Addr} {r : Nat} (h : b ≠ w) (z : g b = 0) : retag g w old r b = 0 := by
  unfold retag
  rw [if_neg h]
  split
  · rfl
  · exact z
/-- to_send is another list, which nobody had -/
theorem TermAt.setSend {fs : List (Str × V)} {w : Addr} {l : List Nat} (T : TermAt C H p M A g) (hw : H w = some (.lst (nums l))) (gw : g w = 0) (e : names.zip (vals { M with toSend := l } { A with se := w }) = fs) :
    TermAt C (upd H p (.ins C A.dx fs)) p { M with toSend := l } { A with se := w } (retag g w A.se 5) := by
  have n : ∀ {b : Addr} {x : Nat}, g b = x → x ≠ 1 → b ≠ p := fun hb hx => ne_tag hb T.gp hx
  have r : ∀ {b : Addr} {x : Nat}, g b = x → x ≠ 0 → x ≠ 5 → retag g w A.se 5 b = x := fun hb h0 h5 => retag_at hb gw T.gse h0 h5
  refine ⟨by rw [upd_same, ← e], by rw [upd_ne (n T.gal (by decide))]; exact T.al, by rw [upd_ne (n T.ggi (by decide))]; exact T.gi, by rw [upd_ne (n T.ggo (by decide))]; exact T.go, by show upd H p _ w = _; rw [upd_ne (n gw (by decide))]; exact hw, by rw [upd_ne (n T.gta (by decide))]; exact T.ta,
    fun i h => by rw [upd_ne (n (T.galI i h) (by omega))]; exact T.alI i h, fun i h => by rw [upd_ne (n (T.ggiI i h) (by omega))]; exact T.giI i h, fun i h => by rw [upd_ne (n (T.ggoI i h) (by omega))]; exact T.goI i h,
    r T.gp (by decide) (by decide), r T.gal (by decide) (by decide), r T.ggi (by decide) (by decide), r T.ggo (by decide) (by decide), retag_new, r T.gta (by decide) (by decide), fun i h => r (T.galI i h) (by omega) (by omega), fun i h => r (T.ggiI i h) (by omega) (by omega), fun i h => r (T.ggoI i h) (by omega) (by omega), fun b h => ?_⟩
  have hb := upd_none h
  exact retag_zero (fun q => by rw [q, hw] at hb; cases hb) (T.fr b hb)
/-- taken is another list, which nobody had; the old one is nobody's -/
theorem TermAt.setTaken {fs : List (Str × V)} {w : Addr} {l : List Nat} (T : TermAt C H p M A g) (hw : H w = some (.lst (nums l))) (gw : g w = 0) (e : names.zip (vals { M with taken := l } { A with ta := w }) = fs) :
    TermAt C (upd H p (.ins C A.dx fs)) p { M with taken := l } { A with ta := w } (retag g w A.ta 6) := by
  have n : ∀ {b : Addr} {x : Nat}, g b = x → x ≠ 1 → b ≠ p := fun hb hx => ne_tag hb T.gp hx
  have r : ∀ {b : Addr} {x : Nat}, g b = x → x ≠ 0 → x ≠ 6 → retag g w A.ta 6 b = x := fun hb h0 h5 => retag_at hb gw T.gta h0 h5
  refine ⟨by rw [upd_same, ← e], by rw [upd_ne (n T.gal (by decide))]; exact T.al, by rw [upd_ne (n T.ggi (by decide))]; exact T.gi, by rw [upd_ne (n T.ggo (by decide))]; exact T.go, by rw [upd_ne (n T.gse (by decide))]; exact T.se, by show upd H p _ w = _; rw [upd_ne (n gw (by decide))]; exact hw,
    fun i h => by rw [upd_ne (n (T.galI i h) (by omega))]; exact T.alI i h, fun i h => by rw [upd_ne (n (T.ggiI i h) (by omega))]; exact T.giI i h, fun i h => by rw [upd_ne (n (T.ggoI i h) (by omega))]; exact T.goI i h,
    r T.gp (by decide) (by decide), r T.gal (by decide) (by decide), r T.ggi (by decide) (by decide), r T.ggo (by decide) (by decide), r T.gse (by decide) (by decide), retag_new, fun i h => r (T.galI i h) (by omega) (by omega), fun i h => r (T.ggiI i h) (by omega) (by omega), fun i h => r (T.ggoI i h) (by omega) (by omega), fun b h => ?_⟩
  have hb := upd_none h
  exact retag_zero (fun q => by rw [q, hw] at hb; cases hb) (T.fr b hb)
/-- taken grows -/
theorem TermAt.takeOne (T : TermAt C H p M A g) (w : Nat) : TermAt C (upd H A.ta (.lst (nums (M.taken ++ [w])))) p { M with taken := M.taken ++ [w] } A g := by
  have n : ∀ {b : Addr} {x : Nat}, g b = x → x ≠ 6 → b ≠ A.ta := fun hb hx => ne_tag hb T.gta hx
  exact ⟨by rw [upd_ne (n T.gp (by decide))]; exact T.ins, by rw [upd_ne (n T.gal (by decide))]; exact T.al, by rw [upd_ne (n T.ggi (by decide))]; exact T.gi, by rw [upd_ne (n T.ggo (by decide))]; exact T.go, by rw [upd_ne (n T.gse (by decide))]; exact T.se, upd_same,
    fun i h => by rw [upd_ne (n (T.galI i h) (by omega))]; exact T.alI i h, fun i h => by rw [upd_ne (n (T.ggiI i h) (by omega))]; exact T.giI i h, fun i h => by rw [upd_ne (n (T.ggoI i h) (by omega))]; exact T.goI i h, T.gp, T.gal, T.ggi, T.ggo, T.gse, T.gta, T.galI, T.ggiI, T.ggoI, fun b h => T.fr b (upd_none h)⟩
theorem getD_set_ne {α : Type} {l : List α} {k i : Nat} {x d : α} (h : i ≠ k) : (l.set k x).getD i d = l.getD i d := by
  rw [getD_set, if_neg (fun z => h z.1)]
theorem getD_set_eq {α : Type} {l : List α} {k : Nat} {x d : α} (h : k < l.length) : (l.set k x).getD k d = x := by
  rw [getD_set, if_pos ⟨rfl, h⟩]
/-- given[k] is another list, which nobody had -/
theorem TermAt.setGiven {w : Addr} {l : List Nat} {k : Nat} (T : TermAt C H p M A g) (hk : k < 32) (hg : M.given.length = 32) (hw : H w = some (.lst (nums l))) (gw : g w = 0) :
    TermAt C (upd H A.gi (.lst ((refs 32 A.giI).set k (V.ref w)))) p { M with given := M.given.set k l } { A with giI := fun i => if i = k then w else A.giI i } (retag g w (A.giI k) (100 + k)) := by
  have n : ∀ {b : Addr} {x : Nat}, g b = x → x ≠ 3 → b ≠ A.gi := fun hb hx => ne_tag hb T.ggi hx
  have r : ∀ {b : Addr} {x : Nat}, g b = x → x ≠ 0 → x ≠ 100 + k → retag g w (A.giI k) (100 + k) b = x := fun hb h0 h5 => retag_at hb gw (T.ggiI k hk) h0 h5
  refine ⟨by rw [upd_ne (n T.gp (by decide))]; exact T.ins, by rw [upd_ne (n T.gal (by decide))]; exact T.al, by rw [upd_same, refs_set], by rw [upd_ne (n T.ggo (by decide))]; exact T.go, by rw [upd_ne (n T.gse (by decide))]; exact T.se, by rw [upd_ne (n T.gta (by decide))]; exact T.ta,
    fun i h => by rw [upd_ne (n (T.galI i h) (by omega))]; exact T.alI i h, fun i h => ?_, fun i h => by rw [upd_ne (n (T.ggoI i h) (by omega))]; exact T.goI i h,
    r T.gp (by omega) (by omega), r T.gal (by omega) (by omega), r T.ggi (by omega) (by omega), r T.ggo (by omega) (by omega), r T.gse (by omega) (by omega), r T.gta (by omega) (by omega), fun i h => r (T.galI i h) (by omega) (by omega), fun i h => ?_, fun i h => r (T.ggoI i h) (by omega) (by omega), fun b h => ?_⟩
  · show upd H A.gi _ (if i = k then w else A.giI i) = some (.lst (nums ((M.given.set k l).getD i [])))
    by_cases e : i = k
    · subst e
      rw [if_pos rfl, upd_ne (n gw (by decide)), getD_set_eq (by omega)]
      exact hw
    · rw [if_neg e, upd_ne (n (T.ggiI i h) (by omega)), getD_set_ne e]
      exact T.giI i h
  · show retag g w (A.giI k) (100 + k) (if i = k then w else A.giI i) = 100 + i
    by_cases e : i = k
    · subst e
      rw [if_pos rfl]
      exact retag_new
    · rw [if_neg e]
      exact r (T.ggiI i h) (by omega) (by omega)
  · have hb := upd_none h
    exact retag_zero (fun q => by rw [q, hw] at hb; cases hb) (T.fr b hb)
/-- got[k] is another list, which nobody had -/
theorem TermAt.setGot {w : Addr} {l : List Nat} {k : Nat} (T : TermAt C H p M A g) (hk : k < 32) (hg : M.got.length = 32) (hw : H w = some (.lst (nums l))) (gw : g w = 0) :
    TermAt C (upd H A.go (.lst ((refs 32 A.goI).set k (V.ref w)))) p { M with got := M.got.set k l } { A with goI := fun i => if i = k then w else A.goI i } (retag g w (A.goI k) (200 + k)) := by
  have n : ∀ {b : Addr} {x : Nat}, g b = x → x ≠ 4 → b ≠ A.go := fun hb hx => ne_tag hb T.ggo hx
  have r : ∀ {b : Addr} {x : Nat}, g b = x → x ≠ 0 → x ≠ 200 + k → retag g w (A.goI k) (200 + k) b = x := fun hb h0 h5 => retag_at hb gw (T.ggoI k hk) h0 h5
  refine ⟨by rw [upd_ne (n T.gp (by decide))]; exact T.ins, by rw [upd_ne (n T.gal (by decide))]; exact T.al, by rw [upd_ne (n T.ggi (by decide))]; exact T.gi, by rw [upd_same, refs_set], by rw [upd_ne (n T.gse (by decide))]; exact T.se, by rw [upd_ne (n T.gta (by decide))]; exact T.ta,
    fun i h => by rw [upd_ne (n (T.galI i h) (by omega))]; exact T.alI i h, fun i h => by rw [upd_ne (n (T.ggiI i h) (by omega))]; exact T.giI i h, fun i h => ?_,
    r T.gp (by omega) (by omega), r T.gal (by omega) (by omega), r T.ggi (by omega) (by omega), r T.ggo (by omega) (by omega), r T.gse (by omega) (by omega), r T.gta (by omega) (by omega), fun i h => r (T.galI i h) (by omega) (by omega), fun i h => r (T.ggiI i h) (by omega) (by omega), fun i h => ?_, fun b h => ?_⟩
  · show upd H A.go _ (if i = k then w else A.goI i) = some (.lst (nums ((M.got.set k l).getD i [])))
    by_cases e : i = k
    · subst e
      rw [if_pos rfl, upd_ne (n gw (by decide)), getD_set_eq (by omega)]
      exact hw
    · rw [if_neg e, upd_ne (n (T.ggoI i h) (by omega)), getD_set_ne e]
      exact T.goI i h
  · show retag g w (A.goI k) (200 + k) (if i = k then w else A.goI i) = 200 + i
    by_cases e : i = k
    · subst e
      rw [if_pos rfl]
      exact retag_new
    · rw [if_neg e]
      exact r (T.ggoI i h) (by omega) (by omega)
  · have hb := upd_none h
    exact retag_zero (fun q => by rw [q, hw] at hb; cases hb) (T.fr b hb)
/-- allowed[k][j] = m -/
theorem TermAt.setAllowed {k : Nat} {l : List Nat} (T : TermAt C H p M A g) (hk : k < 5) (hg : M.allowed.length = 5) :
    TermAt C (upd H (A.alI k) (.lst (nums l))) p { M with allowed := M.allowed.set k l } A g := by
  have n : ∀ {b : Addr} {x : Nat}, g b = x → x ≠ 10 + k → b ≠ A.alI k := fun hb hx => ne_tag hb (T.galI k hk) hx
  refine ⟨by rw [upd_ne (n T.gp (by omega))]; exact T.ins, by rw [upd_ne (n T.gal (by omega))]; exact T.al, by rw [upd_ne (n T.ggi (by omega))]; exact T.gi, by rw [upd_ne (n T.ggo (by omega))]; exact T.go, by rw [upd_ne (n T.gse (by omega))]; exact T.se, by rw [upd_ne (n T.gta (by omega))]; exact T.ta,
    fun i h => ?_, fun i h => by rw [upd_ne (n (T.ggiI i h) (by omega))]; exact T.giI i h, fun i h => by rw [upd_ne (n (T.ggoI i h) (by omega))]; exact T.goI i h, T.gp, T.gal, T.ggi, T.ggo, T.gse, T.gta, T.galI, T.ggiI, T.ggoI, fun b h => T.fr b (upd_none h)⟩
  show upd H (A.alI k) _ (A.alI i) = some (.lst (nums ((M.allowed.set k l).getD i [])))
  by_cases e : i = k
  · subst e
    rw [upd_same, getD_set_eq (by omega)]
  · rw [upd_ne (n (T.galI i h) (by omega)), getD_set_ne e]
    exact T.alI i h
end
end Bt
end
section
set_option Elab.async false
set_option linter.all false
set_option maxRecDepth 100000
set_option maxHeartbeats 4000000
/-! What the text's top has written; the terminal's attributes read and stored. -/
namespace Bt
open PySem PySem.Spec PyProof.Rows L2
structure Txt (K : PySem.W.Frag) (mg : Str → Option Value) (C : Addr) : Prop where
  cl : Cls K C
  mgC : mg "Terminal" = some (.ref C)
  nF : ∀ f ∈ names, NoAttr K C f
  b_len : mg "len" = none
  b_sum : mg "sum" = none
  b_range : mg "range" = none
  m_init : ∃ (f : Addr) (fd : FuncData), Mk K C f ∧ Fun K "__init__" "Terminal.__init__" (inClass (top 39) 0) f fd
  m_begin_anew : ∃ (f : Addr) (fd : FuncData), Meth K C "begin_anew" f ∧ Fun K "begin_anew" "Terminal.begin_anew" (inClass (top 39) 1) f fd
  m_drop_command : ∃ (f : Addr) (fd : FuncData), Meth K C "drop_command" f ∧ Fun K "drop_command" "Terminal.drop_command" (inClass (top 39) 2) f fd
  lens : ∃ a, mg "CALL_LENGTHS" = some (.ref a) ∧ ∀ H, SqT K H a [V.int 2, V.int 5, V.int 2, V.int 1, V.int 3, V.int 2, V.int 2, V.int 4, V.int 1]
  c_COMMAND_SYNC : Cn mg "COMMAND_SYNC" 0
  c_DATA_SYNC : Cn mg "DATA_SYNC" 1
  c_ALL_TERMINALS : Cn mg "ALL_TERMINALS" 31
  c_TIME_SPAN : Cn mg "TIME_SPAN" 4294967296
  c_NOTHING : Cn mg "NOTHING" 0
  c_FIRST_WORD : Cn mg "FIRST_WORD" 1
  c_SENDER_STATUS : Cn mg "SENDER_STATUS" 2
  c_DATA_WORD : Cn mg "DATA_WORD" 3
  c_TO_RECEIVE : Cn mg "TO_RECEIVE" 0
  c_TO_TRANSMIT : Cn mg "TO_TRANSMIT" 1
  c_TO_RECEIVE_TO_ALL : Cn mg "TO_RECEIVE_TO_ALL" 2
  c_LOW_MODES : Cn mg "LOW_MODES" 3
  c_HIGH_MODES : Cn mg "HIGH_MODES" 4
  c_EVERY_COUNT : Cn mg "EVERY_COUNT" 4294967295
  c_MODES_0_TO_8 : Cn mg "MODES_0_TO_8" 511
  c_MODES_16_TO_21 : Cn mg "MODES_16_TO_21" 4128768
  c_TAKE_CONTROL : Cn mg "TAKE_CONTROL" 0
  c_SYNCHRONIZE : Cn mg "SYNCHRONIZE" 1
  c_REPEAT_STATUS : Cn mg "REPEAT_STATUS" 2
  c_OTHER_WIRE_OFF : Cn mg "OTHER_WIRE_OFF" 4
  c_OTHER_WIRE_ON : Cn mg "OTHER_WIRE_ON" 5
  c_HUSH_FAULT : Cn mg "HUSH_FAULT" 6
  c_SHOW_FAULT : Cn mg "SHOW_FAULT" 7
  c_RESET : Cn mg "RESET" 8
  c_FIRST_HIGH_MODE : Cn mg "FIRST_HIGH_MODE" 16
  c_SERVICE_WORD : Cn mg "SERVICE_WORD" 16
  c_SET_STEP : Cn mg "SET_STEP" 17
  c_REPEAT_COMMAND : Cn mg "REPEAT_COMMAND" 18
  c_TEST_WORD : Cn mg "TEST_WORD" 19
  c_CHOSEN_WIRE_OFF : Cn mg "CHOSEN_WIRE_OFF" 20
  c_CHOSEN_WIRE_ON : Cn mg "CHOSEN_WIRE_ON" 21
  c_SHORTEST_GAP : Cn mg "SHORTEST_GAP" 20
  c_LONGEST_GAP : Cn mg "LONGEST_GAP" 23
  c_LONGEST_STATUS_GAP : Cn mg "LONGEST_STATUS_GAP" 57
  c_COUNTER_SPAN : Cn mg "COUNTER_SPAN" 65536
  c_BEGIN : Cn mg "BEGIN" 0
  c_WORD : Cn mg "WORD" 1
  c_TICK : Cn mg "TICK" 2
  c_OUTPUT : Cn mg "OUTPUT" 3
  c_GIVE : Cn mg "GIVE" 4
  c_GET : Cn mg "GET" 5
  c_SET_FLAGS : Cn mg "SET_FLAGS" 6
  c_ALLOW : Cn mg "ALLOW" 7
  c_TOLD : Cn mg "TOLD" 8
  c_HIGHEST_ADDRESS : Cn mg "HIGHEST_ADDRESS" 30
  c_HIGHEST_SUB : Cn mg "HIGHEST_SUB" 31
  c_LONGEST_ROW : Cn mg "LONGEST_ROW" 32
  c_HIGHEST_FLAGS : Cn mg "HIGHEST_FLAGS" 31
  g_bit_of : Glob K mg "bit_of" (top 5)
  g_address_of : Glob K mg "address_of" (top 6)
  g_is_to_all : Glob K mg "is_to_all" (top 7)
  g_is_to_transmit : Glob K mg "is_to_transmit" (top 8)
  g_sub_of : Glob K mg "sub_of" (top 9)
  g_count_of : Glob K mg "count_of" (top 10)
  g_is_mode : Glob K mg "is_mode" (top 11)
  g_how_many_words : Glob K mg "how_many_words" (top 12)
  g_time_between : Glob K mg "time_between" (top 13)
  g_ones_in : Glob K mg "ones_in" (top 14)
  g_on_the_wire : Glob K mg "on_the_wire" (top 15)
  g_is_busy : Glob K mg "is_busy" (top 17)
  g_may_hand_over_control : Glob K mg "may_hand_over_control" (top 18)
  g_shown_fault : Glob K mg "shown_fault" (top 19)
  g_status_of : Glob K mg "status_of" (top 20)
  g_send : Glob K mg "send" (top 21)
  g_reply : Glob K mg "reply" (top 22)
  g_reply_error : Glob K mg "reply_error" (top 23)
  g_fetch : Glob K mg "fetch" (top 24)
  g_allowed_at_the_beginning : Glob K mg "allowed_at_the_beginning" (top 38)
  g_is_mode_allowed : Glob K mg "is_mode_allowed" (top 56)
  g_asks_what_was_before : Glob K mg "asks_what_was_before" (top 57)
  g_sends_a_word : Glob K mg "sends_a_word" (top 58)
  g_takes_a_word : Glob K mg "takes_a_word" (top 59)
  g_do_mode : Glob K mg "do_mode" (top 60)
  g_is_low_mode_in_order : Glob K mg "is_low_mode_in_order" (top 61)
  g_do_low_mode : Glob K mg "do_low_mode" (top 62)
  g_change_by_low_mode : Glob K mg "change_by_low_mode" (top 63)
  g_do_sending_mode : Glob K mg "do_sending_mode" (top 64)
  g_first_given : Glob K mg "first_given" (top 65)
  g_finish_taking_mode : Glob K mg "finish_taking_mode" (top 66)
  g_hear : Glob K mg "hear" (top 72)
  g_is_for : Glob K mg "is_for" (top 73)
  g_notice_silence : Glob K mg "notice_silence" (top 74)
  g_fail : Glob K mg "fail" (top 75)
  g_count_error : Glob K mg "count_error" (top 76)
  g_begin_command : Glob K mg "begin_command" (top 77)
  g_await_words : Glob K mg "await_words" (top 78)
  g_hear_awaited : Glob K mg "hear_awaited" (top 79)
  g_hear_data : Glob K mg "hear_data" (top 80)
  g_hear_another_terminal : Glob K mg "hear_another_terminal" (top 81)
  g_finish_if_all_there : Glob K mg "finish_if_all_there" (top 82)
  g_is_allowed : Glob K mg "is_allowed" (top 83)
  g_finish_receiving : Glob K mg "finish_receiving" (top 84)
  g_transmit : Glob K mg "transmit" (top 85)
  g_words_to_transmit : Glob K mg "words_to_transmit" (top 86)
  g_answers : Glob K mg "answers" (top 103)
  g_call_length : Glob K mg "call_length" (top 104)
  g_answer : Glob K mg "answer" (top 105)
  g_done : Glob K mg "done" (top 106)
  g_refusal : Glob K mg "refusal" (top 107)
  g_counted : Glob K mg "counted" (top 108)
  g_is_sub : Glob K mg "is_sub" (top 109)
  g_begin : Glob K mg "begin" (top 110)
  g_take_word : Glob K mg "take_word" (top 111)
  g_tick : Glob K mg "tick" (top 112)
  g_output : Glob K mg "output" (top 113)
  g_give : Glob K mg "give" (top 114)
  g_get_words : Glob K mg "get_words" (top 115)
  g_set_flags : Glob K mg "set_flags" (top 116)
  g_allow : Glob K mg "allow" (top 117)
  g_has_allowed_counts : Glob K mg "has_allowed_counts" (top 118)
  g_told : Glob K mg "told" (top 119)
section
variable {X : Cx} {C : Addr} {e o value : Expr} {f : Str} {pos pos' : Pos} {ta tv : TE}
theorem Txt.no (T : Txt X.K X.mg C) {i : Nat} {f : Str} (h : names[i]? = some f) : NoAttr X.K C f := T.nF f (List.mem_of_getElem? h)
def tTf (C : Addr) (i : Nat) (ta : TE) : TE := fun σ H Q => ta σ H fun x H1 => ∃ p M A g v, x = .ref p ∧ TermAt C H1 p M A g ∧ (vals M A)[i]? = some v ∧ Q v H1
/-- terminal.f -/
theorem pe_tf (T : Txt X.K X.mg C) (i : Nat) (he : PE X e ta) (hf : names[i]? = some f := by rfl) (hb : attributeBase e f X.env (eval e X.env) = eval e X.env := by rfl) : PE X (.Attribute e f pos) (tTf C i ta) := by
  intro pins s σ H Q I h
  refine attr_of hb (thn (he pins s σ H _ I h) fun u s1 ⟨x, H1, I1, rx, p, M, A, g, v, ex, ht, hv, q⟩ => ?_)
  subst ex
  obtain rfl : u = Value.ref p := rx
  exact getattr_ok I1 ht.ins T.cl (T.no hf) (zip_lookup names_nd hf hv) fun u' s2 I2 ru => ⟨v, H1, I2, ru, q⟩
/-- one number of the terminal is another -/
structure Sc (i : Nat) (M M' : Mir) (y : V) : Prop where
  v : ∀ A, (vals M A).take i ++ y :: (vals M A).drop (i + 1) = vals M' A
  al : M'.allowed = M.allowed
  gi : M'.given = M.given
  go : M'.got = M.got
  se : M'.toSend = M.toSend
  tk : M'.taken = M.taken
def sTs (C : Addr) (i : Nat) (ta tv : TE) : TS := fun D σ H => tv σ H fun y H1 => ta σ H1 fun x H2 => ∃ p M A g M', x = .ref p ∧ TermAt C H2 p M A g ∧ Sc i M M' y ∧ ∀ H', TermAt C H' p M' A g → Frm H2 g H' g → D.nx σ H'
theorem vals_len (M : Mir) (A : Ad) : (vals M A).length = 20 := rfl
theorem names_len : names.length = 20 := rfl
theorem few {vs : List V} : (names.zip vs).length < 1000 := by
  rw [List.length_zip, names_len]
  omega
/-- terminal.f = a number -/
theorem ps_ts (T : Txt X.K X.mg C) (i : Nat) (ha : PE X o ta) (hv : PE X value tv) (hf : names[i]? = some f := by rfl) (hi : i ≤ 20 := by decide) (hs : swapsWith value (some (.Attribute o f pos')) pos.line X.env = pure false := by rfl) : PS X (.Assign [.Attribute o f pos'] value pos) (sTs C i ta tv) := by
  intro pins s σ H D I h
  refine plainObj_wpAny_Assign_Attribute (thn (hv pins s σ H _ I h) fun u s1 ⟨y, H1, I1, ry, q⟩ => thn (ha pins s1 σ H1 _ I1 q) fun ov s2 ⟨x, H2, I2, rx, p, M, A, g, M', ex, ht, sc, q2⟩ => ?_) hs
  subst ex
  obtain rfl : ov = Value.ref p := rx
  refine setattr_ok I2 ht.ins T.cl (T.no hf) few ry fun s3 I3 => ⟨σ, _, I3, ?_⟩
  refine q2 _ (ht.fld (M' := M') ?_ sc.al sc.gi sc.go sc.se sc.tk) (ht.frm (by rw [ht.gp]; decide))
  rw [zip_put names_nd hf (by rw [vals_len]; exact hi), sc.v A]
def sTse (C : Addr) (ta tv : TE) : TS := fun D σ H => tv σ H fun y H1 => ta σ H1 fun x H2 => ∃ p M A g w l, x = .ref p ∧ y = .ref w ∧ TermAt C H2 p M A g ∧ H2 w = some (.lst (nums l)) ∧ g w = 0 ∧
  ∀ H', TermAt C H' p { M with toSend := l } { A with se := w } (retag g w A.se 5) → (∀ b u, b ≠ p → H2 b = some u → H' b = some u) → D.nx σ H'
/-- terminal.to_send = a list -/
theorem ps_tse (T : Txt X.K X.mg C) (ha : PE X o ta) (hv : PE X value tv) (hs : swapsWith value (some (.Attribute o "to_send" pos')) pos.line X.env = pure false := by rfl) : PS X (.Assign [.Attribute o "to_send" pos'] value pos) (sTse C ta tv) := by
  intro pins s σ H D I h
  refine plainObj_wpAny_Assign_Attribute (thn (hv pins s σ H _ I h) fun u s1 ⟨y, H1, I1, ry, q⟩ => thn (ha pins s1 σ H1 _ I1 q) fun ov s2 ⟨x, H2, I2, rx, p, M, A, g, w, l, ex, ey, ht, hw, gw, q2⟩ => ?_) hs
  subst ex ey
  obtain rfl : ov = Value.ref p := rx
  refine setattr_ok I2 ht.ins T.cl (T.no (i := 14) rfl) few ry fun s3 I3 => ⟨σ, _, I3, ?_⟩
  refine q2 _ (ht.setSend hw gw ?_) fun b u hb e => by rw [upd_ne hb]; exact e
  rw [zip_put (i := 14) names_nd rfl (by rw [vals_len]; decide)]
  rfl
def tLens (a : Addr) : TE := tC (.ref a)
end
end Bt
end
section
set_option Elab.async false
set_option linter.all false
set_option maxRecDepth 100000
set_option maxHeartbeats 4000000
/-! The defs of words.py. -/
namespace Bt
open PySem PySem.Spec PyProof.Rows L2
open Sa67 (toOf sends subOf countOf many mode onWire gone)
section
variable {P : Program} {w : World} {K : PySem.W.Frag} {mg : Str → Option Value} {base : Heap} {C : Addr}
/-- one number in, under p, a value out; two -/
def sp1 (p : Nat → Prop) (f : Nat → V) : Sp := fun vs H Q _ => ∃ n : Nat, vs = [.int n] ∧ p n ∧ Q (f n) H
def sp2 (p : Nat → Nat → Prop) (f : Nat → Nat → V) : Sp := fun vs H Q _ => ∃ n k : Nat, vs = [.int n, .int k] ∧ p n k ∧ Q (f n k) H
abbrev any1 : Nat → Prop := fun _ => True
abbrev any2 : Nat → Nat → Prop := fun _ _ => True
theorem sp1_len {p : Nat → Prop} {f : Nat → V} {x : Str} : ∀ vs H Q E, sp1 p f vs H Q E → vs.length = [x].length := fun vs H Q E h => by
  obtain ⟨n, rfl, _⟩ := h
  rfl
theorem sp2_len {p : Nat → Nat → Prop} {f : Nat → Nat → V} {x y : Str} : ∀ vs H Q E, sp2 p f vs H Q E → vs.length = [x, y].length := fun vs H Q E h => by
  obtain ⟨n, k, rfl, _⟩ := h
  rfl
theorem cast_shr (n k : Nat) : (n : Int) / 2 ^ (k : Int).toNat = ((n / 2 ^ k : Nat) : Int) := by
  rw [Int.toNat_natCast, Int.natCast_ediv, Int.natCast_pow]
  rfl
theorem cast_bit (n k : Nat) : Builtin.bitAnd ((n : Int) / 2 ^ (k : Int).toNat) 1 = (bitOf n k : Nat) := by
  rw [cast_shr, bitAnd_m1]
  rfl
theorem dec_nat (a b : Nat) : decide (V.int (a : Int) = V.int (b : Int)) = decide (a = b) := by
  by_cases h : a = b
  · subst h; simp
  · have : ¬ V.int (a : Int) = V.int (b : Int) := fun e => h (by injection e with e; exact Int.ofNat.inj e)
    simp [h, this]

theorem sc_bit_of : FnScope ["number", "place"] ["number", "place"] (defScope (top 5)) := ⟨rfl, rfl, rfl, by decide +kernel, rfl, by decide +kernel, by decide +kernel⟩
theorem ok_bit_of (T : Txt K mg C) : Kn P w K mg base 1 "bit_of" ["number", "place"] (sp2 any2 fun n k => .int (bitOf n k)) := by
  refine T.g_bit_of.kn sc_bit_of (fun _ _ _ _ _ _ us hl => match us, hl with | [_, _], _ => rfl) sp2_len (fun f cdv A outer s H vs Q E hr h => ?_)
  obtain ⟨n, k, rfl, _, q⟩ := h
  refine ⟨_, (pss_one (ps_ret (pe_op op_and (pe_op op_shr (pv 0) (pv 1)) pe_int))), ?_⟩
  refine ⟨_, rfl, _, rfl, _, _, rfl, rfl, Int.natCast_nonneg k, _, _, rfl, rfl, ?_⟩
  show Q (.int (Builtin.bitAnd _ 1)) H
  rw [cast_bit]
  exact q

theorem sc_address_of : FnScope ["word"] ["word"] (defScope (top 6)) := ⟨rfl, rfl, rfl, by decide +kernel, rfl, by decide +kernel, by decide +kernel⟩
theorem ok_address_of (T : Txt K mg C) : Kn P w K mg base 1 "address_of" ["word"] (sp1 any1 fun n => .int (toOf n)) := by
  refine T.g_address_of.kn sc_address_of (fun _ _ _ _ _ _ us hl => match us, hl with | [_], _ => rfl) sp1_len (fun f cdv A outer s H vs Q E hr h => ?_)
  obtain ⟨n, rfl, _, q⟩ := h
  refine ⟨_, (pss_one (ps_ret (pe_op op_shr (pv 0) pe_int))), ?_⟩
  refine ⟨_, rfl, _, _, rfl, rfl, (by show (0 : Int) ≤ 11; decide), ?_⟩
  have e : (n : Int) / 2 ^ ((11 : Nat) : Int).toNat = ((n / 2 ^ 11 : Nat) : Int) := cast_shr n 11
  show Q (.int ((n : Int) / 2 ^ ((11 : Nat) : Int).toNat)) H
  rw [e]
  exact q

theorem sc_is_to_all : FnScope ["command"] ["command"] (defScope (top 7)) := ⟨rfl, rfl, rfl, by decide +kernel, rfl, by decide +kernel, by decide +kernel⟩
theorem ok_is_to_all (T : Txt K mg C) : Kn P w K mg base 2 "is_to_all" ["command"] (sp1 any1 fun n => .bl (Sa67.toAll n)) := by
  refine T.g_is_to_all.kn sc_is_to_all (fun _ _ _ _ _ _ us hl => match us, hl with | [_], _ => rfl) sp1_len (fun f cdv A outer s H vs Q E hr h => ?_)
  obtain ⟨n, rfl, _, q⟩ := h
  refine ⟨_, (pss_one (ps_ret (pe_cmpR op_eq (pe_kn (ok_address_of T) hr (pa_cons (pv 0) pa_nil)) (pe_cn T.c_ALL_TERMINALS) (nomark _)))), ?_⟩
  refine ⟨_, rfl, n, rfl, trivial, rfl, ?_⟩
  have e : decide (V.int (toOf n : Int) = V.int ((31 : Nat) : Int)) = Sa67.toAll n := dec_nat _ _
  show Q (.bl (decide (V.int (toOf n : Int) = V.int ((31 : Nat) : Int)))) H
  rw [e]
  exact q

theorem sc_is_to_transmit : FnScope ["command"] ["command"] (defScope (top 8)) := ⟨rfl, rfl, rfl, by decide +kernel, rfl, by decide +kernel, by decide +kernel⟩
theorem ok_is_to_transmit (T : Txt K mg C) : Kn P w K mg base 2 "is_to_transmit" ["command"] (sp1 any1 fun n => .bl (sends n)) := by
  refine T.g_is_to_transmit.kn sc_is_to_transmit (fun _ _ _ _ _ _ us hl => match us, hl with | [_], _ => rfl) sp1_len (fun f cdv A outer s H vs Q E hr h => ?_)
  obtain ⟨n, rfl, _, q⟩ := h
  refine ⟨_, (pss_one (ps_ret (pe_cmpR op_eq (pe_kn (ok_bit_of T) hr (pa_cons (pv 0) (pa_cons pe_int pa_nil))) pe_int (nomark _)))), ?_⟩
  refine ⟨_, rfl, n, 10, rfl, trivial, rfl, ?_⟩
  have e : decide (V.int (bitOf n 10 : Int) = V.int ((1 : Nat) : Int)) = sends n := (dec_nat _ _).trans (tb_eq n 10).symm
  show Q (.bl (decide (V.int (bitOf n 10 : Int) = V.int ((1 : Nat) : Int)))) H
  rw [e]
  exact q

theorem sc_sub_of : FnScope ["command"] ["command"] (defScope (top 9)) := ⟨rfl, rfl, rfl, by decide +kernel, rfl, by decide +kernel, by decide +kernel⟩
theorem ok_sub_of (T : Txt K mg C) : Kn P w K mg base 1 "sub_of" ["command"] (sp1 any1 fun n => .int (subOf n)) := by
  refine T.g_sub_of.kn sc_sub_of (fun _ _ _ _ _ _ us hl => match us, hl with | [_], _ => rfl) sp1_len (fun f cdv A outer s H vs Q E hr h => ?_)
  obtain ⟨n, rfl, _, q⟩ := h
  refine ⟨_, (pss_one (ps_ret (pe_op op_and (pe_op op_shr (pv 0) pe_int) pe_int))), ?_⟩
  refine ⟨_, rfl, _, _, rfl, rfl, (by show (0 : Int) ≤ 5; decide), _, _, rfl, rfl, ?_⟩
  have e : Builtin.bitAnd ((n : Int) / 2 ^ ((5 : Nat) : Int).toNat) 31 = ((subOf n : Nat) : Int) := by
    rw [cast_shr, bitAnd_m5]
    rfl
  show Q (.int (Builtin.bitAnd ((n : Int) / 2 ^ ((5 : Nat) : Int).toNat) 31)) H
  rw [e]
  exact q

theorem sc_count_of : FnScope ["command"] ["command"] (defScope (top 10)) := ⟨rfl, rfl, rfl, by decide +kernel, rfl, by decide +kernel, by decide +kernel⟩
theorem ok_count_of (T : Txt K mg C) : Kn P w K mg base 1 "count_of" ["command"] (sp1 any1 fun n => .int (countOf n)) := by
  refine T.g_count_of.kn sc_count_of (fun _ _ _ _ _ _ us hl => match us, hl with | [_], _ => rfl) sp1_len (fun f cdv A outer s H vs Q E hr h => ?_)
  obtain ⟨n, rfl, _, q⟩ := h
  refine ⟨_, (pss_one (ps_ret (pe_op op_and (pv 0) pe_int))), ?_⟩
  refine ⟨_, rfl, _, _, rfl, rfl, ?_⟩
  have e : Builtin.bitAnd (n : Int) 31 = ((countOf n : Nat) : Int) := by
    rw [bitAnd_m5]
    rfl
  show Q (.int (Builtin.bitAnd (n : Int) 31)) H
  rw [e]
  exact q

/-- x in (a, b) of numbers -/
theorem in_two (x a b : Nat) : inV (V.int (x : Int)) [V.int (a : Int), V.int (b : Int)] = (x == a || x == b) := by
  unfold inV
  show (eqV (V.int (a : Int)) (V.int (x : Int)) || (eqV (V.int (b : Int)) (V.int (x : Int)) || false)) = _
  have e : ∀ y : Nat, eqV (V.int (y : Int)) (V.int (x : Int)) = (x == y) := fun y => by
    show ((y : Int) == (x : Int)) = (x == y)
    by_cases h : x = y
    · subst h; simp
    · have h1 : (x == y) = false := by simp [h]
      have h2 : ¬ ((y : Int) = (x : Int)) := fun e => h (Int.ofNat.inj e).symm
      rw [h1]
      simp [h2]
  rw [e, e, Bool.or_false]
theorem in_three (x a b c : Nat) : inV (V.int (x : Int)) [V.int (a : Int), V.int (b : Int), V.int (c : Int)] = (x == a || x == b || x == c) := by
  have h2 := in_two x b c
  have h1 := in_two x a a
  unfold inV at h1 h2 ⊢
  rw [List.any_cons, h2]
  have : eqV (V.int (a : Int)) (V.int (x : Int)) = (x == a) := by
    rw [List.any_cons, List.any_cons, List.any_nil, Bool.or_false] at h1
    simpa using h1
  rw [this, Bool.or_assoc]

/-- .. the heap may have grown -/
def sp1g (p : Nat → Prop) (f : Nat → V) : Sp := fun vs H Q _ => ∃ n : Nat, vs = [.int n] ∧ p n ∧ ∀ H', Same H H' → Q (f n) H'
def sp2g (p : Nat → Nat → Prop) (f : Nat → Nat → V) : Sp := fun vs H Q _ => ∃ n k : Nat, vs = [.int n, .int k] ∧ p n k ∧ ∀ H', Same H H' → Q (f n k) H'
theorem sp1g_len {p : Nat → Prop} {f : Nat → V} {x : Str} : ∀ vs H Q E, sp1g p f vs H Q E → vs.length = [x].length := fun vs H Q E h => by
  obtain ⟨n, rfl, _⟩ := h
  rfl
theorem sp2g_len {p : Nat → Nat → Prop} {f : Nat → Nat → V} {x y : Str} : ∀ vs H Q E, sp2g p f vs H Q E → vs.length = [x, y].length := fun vs H Q E h => by
  obtain ⟨n, k, rfl, _⟩ := h
  rfl

theorem sc_is_mode : FnScope ["command"] ["command"] (defScope (top 11)) := ⟨rfl, rfl, rfl, by decide +kernel, rfl, by decide +kernel, by decide +kernel⟩
theorem ok_is_mode (T : Txt K mg C) : Kn P w K mg base 2 "is_mode" ["command"] (sp1g any1 fun n => .bl (mode n)) := by
  refine T.g_is_mode.kn sc_is_mode (fun _ _ _ _ _ _ us hl => match us, hl with | [_], _ => rfl) sp1g_len (fun f cdv A outer s H vs Q E hr h => ?_)
  obtain ⟨n, rfl, _, q⟩ := h
  refine ⟨_, (pss_one (ps_ret (pe_cmpR op_in_seq (pe_kn (ok_sub_of T) hr (pa_cons (pv 0) pa_nil)) (pe_tup (pa_cons pe_int (pa_cons pe_int pa_nil))) (by with_unfolding_all rfl)))), ?_⟩
  refine ⟨_, rfl, n, rfl, trivial, (by show 2 ≤ sizeLine; decide), fun p hp => ⟨p, _, rfl, .inr (SqT.of upd_same), rfl, rfl, ?_⟩⟩
  have e : inV (V.int (subOf n : Int)) [V.int ((0 : Nat) : Int), V.int ((31 : Nat) : Int)] = mode n := in_two _ _ _
  show Q (.bl (inV (V.int (subOf n : Int)) [V.int ((0 : Nat) : Int), V.int ((31 : Nat) : Int)])) _
  rw [e]
  exact q _ (same_new hp)

theorem sc_how_many_words : FnScope ["command", "count"] ["command"] (defScope (top 12)) := ⟨rfl, rfl, rfl, by decide +kernel, rfl, by decide +kernel, by decide +kernel⟩
theorem ok_how_many_words (T : Txt K mg C) : Kn P w K mg base 2 "how_many_words" ["command"] (sp1 any1 fun n => .int (many n)) := by
  refine T.g_how_many_words.kn sc_how_many_words (fun _ _ _ _ _ _ us hl => match us, hl with | [_], _ => rfl) sp1_len (fun f cdv A outer s H vs Q E hr h => ?_)
  obtain ⟨n, rfl, _, q⟩ := h
  refine ⟨_, (pss_cons (ps_set (i := 1) sc_how_many_words.nd rfl (Or.inl rfl) (pe_kn (ok_count_of T) hr (pa_cons (pv 0) pa_nil)))
      (pss_cons (ps_if (pt_cmpR op_eq (pv 1) pe_int (nomark _)) (pss_one (ps_ret pe_int)) pss_nil)
      (pss_one (ps_ret (pv 1))))), ?_⟩
  refine ⟨_, rfl, n, rfl, trivial, _, rfl, rfl, _, rfl, ?_⟩
  have e : decide (V.int (countOf n : Int) = V.int ((0 : Nat) : Int)) = decide (countOf n = 0) := dec_nat _ _
  show if decide (V.int (countOf n : Int) = V.int ((0 : Nat) : Int)) = true then _ else _
  rw [e]
  have q : Q (V.int ((if countOf n = 0 then 32 else countOf n : Nat) : Int)) H := q
  refine ite2 (fun h => ?_) fun h => ?_
  · rw [if_pos (of_decide_eq_true h)] at q
    exact q
  · rw [if_neg (fun z => h (decide_eq_true z))] at q
    exact ⟨_, rfl, q⟩

theorem gone_eq {a b : Nat} (ha : a < 4294967296) : ((b : Int) - (a : Int)) % 4294967296 = (gone a b : Int) := by
  unfold gone
  have : a % 2 ^ 32 = a := Nat.mod_eq_of_lt ha
  omega
theorem sc_time_between : FnScope ["before", "now"] ["before", "now"] (defScope (top 13)) := ⟨rfl, rfl, rfl, by decide +kernel, rfl, by decide +kernel, by decide +kernel⟩
theorem ok_time_between (T : Txt K mg C) : Kn P w K mg base 1 "time_between" ["before", "now"] (sp2 (fun a _ => a < 4294967296) fun a b => .int (gone a b)) := by
  refine T.g_time_between.kn sc_time_between (fun _ _ _ _ _ _ us hl => match us, hl with | [_, _], _ => rfl) sp2_len (fun f cdv A outer s H vs Q E hr h => ?_)
  obtain ⟨a, b, rfl, ha, q⟩ := h
  refine ⟨_, (pss_one (ps_ret (pe_op op_mod (pe_op op_sub (pv 1) (pv 0)) (pe_cn T.c_TIME_SPAN)))), ?_⟩
  refine ⟨_, rfl, _, rfl, _, _, rfl, rfl, _, _, rfl, rfl, (by show (0 : Int) < 4294967296; decide), ?_⟩
  show Q (.int (((b : Int) - (a : Int)) % 4294967296)) H
  rw [gone_eq ha]
  exact q

theorem sum_bits (v : Nat) : ∀ l : List Nat, (l.map fun i => (bitOf v i : Int)).sum = ((l.filter v.testBit).length : Int)
  | [] => rfl
  | a :: l => by
    have h := bitOf_le v a
    rw [List.map_cons, List.sum_cons, sum_bits v l, List.filter_cons, tb_eq]
    by_cases e : bitOf v a = 1
    · rw [decide_eq_true e, if_pos rfl, List.length_cons, e]
      omega
    · have e0 : bitOf v a = 0 := by omega
      rw [decide_eq_false e, if_neg Bool.false_ne_true, e0]
      omega
theorem range_snoc {α : Type} (f : Nat → α) (i : Nat) : (List.range (i + 1)).map f = (List.range i).map f ++ [f i] := by
  rw [List.range_succ, List.map_append]
  rfl
theorem sc_ones_in : FnScope ["word", "place"] ["word"] (defScope (top 14)) := ⟨rfl, rfl, rfl, by decide +kernel, rfl, by decide +kernel, by decide +kernel⟩
theorem ok_ones_in (T : Txt K mg C) : Kn P w K mg base 2 "ones_in" ["word"] (sp1g any1 fun n => .int (Sa67.ones n)) := by
  refine T.g_ones_in.kn sc_ones_in (fun _ _ _ _ _ _ us hl => match us, hl with | [_], _ => rfl) sp1g_len (fun f cdv A outer s H vs Q E hr h => ?_)
  obtain ⟨n, rfl, _, q⟩ := h
  refine ⟨_, (pss_one (ps_ret (pe_callB (cr_sum rfl) (by rfl) T.b_sum boot_sum (pa_cons (pe_lc (own := [("place", 1)]) rfl sc_ones_in.nd (pi_range1 (by rfl) T.b_range (pa_cons pe_int pa_nil)) (blkOk_by (by show blkC ["word", "place"] (defScope (top 14)) _ [("place", 1)] = true; decide +kernel)) (fun _ _ _ _ _ => pg_name (i := 1) sc_ones_in.nd rfl (Or.inl rfl)) (fun _ _ _ _ _ => pts_nil) (fun _ _ _ _ _ => (pe_kn (ok_bit_of T) hr (pa_cons (pv 0) (pa_cons (pv 1) pa_nil))))) pa_nil)))), ?_⟩
  refine ⟨16, rfl, by decide, by decide, fun D hD => lc_range (lo := 0) (n := 16) (fun i H' => Same H H' ∧ H' D = some (.lst ((List.range i).map fun j => V.int (bitOf n j : Int)))) ⟨same_new hD, upd_same⟩ ?_ ?_⟩
  · rintro i H' hi ⟨s1, hD'⟩
    refine ⟨rfl, ⟨_, rfl, _, rfl, n, i, ?_, trivial, _, hD', ?_, ?_, ?_⟩⟩
    · show [V.int (n : Int), V.int (0 + (i : Int))] = _
      rw [Int.zero_add]
    · rw [List.length_map, List.length_range]
      exact Nat.lt_of_lt_of_le hi (by decide)
    · exact fun b o e => by
        rw [upd_ne (ne_of_none e hD)]
        exact s1 b o e
    · rw [upd_same, range_snoc]
  · rintro H' ⟨s1, hD'⟩
    refine ⟨D, (List.range 16).map fun j => (bitOf n j : Int), rfl, SqL.of (by rw [hD', List.map_map]; rfl), ?_⟩
    rw [sum_bits]
    exact q _ s1

theorem wire_eq {sync v : Nat} (hs : sync ≤ 1) (hv : v < 65536) : Builtin.bitOr (Builtin.bitOr ((1 - (Sa67.ones v : Int) % 2) * 2 ^ ((17 : Nat) : Int).toNat) ((sync : Int) * 2 ^ ((16 : Nat) : Int).toNat)) (v : Int) = (onWire sync v : Nat) := by
  have e1 : Builtin.bitOr ((1 - (Sa67.ones v : Int) % 2) * 2 ^ 17) ((sync : Int) * 2 ^ 16) = (sync : Int) * 2 ^ 16 + (1 - (Sa67.ones v : Int) % 2) * 2 ^ 17 := Bits.bitOr_join' (by omega) (by omega) (by omega)
  show Builtin.bitOr (Builtin.bitOr ((1 - (Sa67.ones v : Int) % 2) * 2 ^ 17) ((sync : Int) * 2 ^ 16)) (v : Int) = _
  rw [e1]
  have e2 : (sync : Int) * 2 ^ 16 + (1 - (Sa67.ones v : Int) % 2) * 2 ^ 17 = ((sync : Int) + (1 - (Sa67.ones v : Int) % 2) * 2) * 2 ^ 16 := by omega
  rw [e2, Bits.bitOr_join' (by omega) (by omega) (by omega)]
  unfold onWire
  split <;> omega
theorem sc_on_the_wire : FnScope ["sync", "word", "parity"] ["sync", "word"] (defScope (top 15)) := ⟨rfl, rfl, rfl, by decide +kernel, rfl, by decide +kernel, by decide +kernel⟩
theorem ok_on_the_wire (T : Txt K mg C) : Kn P w K mg base 3 "on_the_wire" ["sync", "word"] (sp2g (fun a v => a ≤ 1 ∧ v < 65536) fun a v => .int (onWire a v)) := by
  refine T.g_on_the_wire.kn sc_on_the_wire (fun _ _ _ _ _ _ us hl => match us, hl with | [_, _], _ => rfl) sp2g_len (fun f cdv A outer s H vs Q E hr h => ?_)
  obtain ⟨a, v, rfl, ⟨ha, hv⟩, q⟩ := h
  refine ⟨_, (pss_cons (ps_set (i := 2) sc_on_the_wire.nd rfl (Or.inl rfl) (pe_op op_sub pe_int (pe_op op_mod (pe_kn (ok_ones_in T) hr (pa_cons (pv 1) pa_nil)) pe_int)))
      (pss_one (ps_ret (pe_op op_or (pe_op op_or (pe_op op_shl (pv 2) pe_int) (pe_op op_shl (pv 0) pe_int)) (pv 1))))), ?_⟩
  refine ⟨_, rfl, v, rfl, trivial, fun H1 s1 => ?_⟩
  refine ⟨_, _, rfl, rfl, (by show (0 : Int) < 2; decide), _, _, rfl, rfl, ?_⟩
  refine ⟨_, rfl, _, _, rfl, rfl, ⟨(by decide), (by decide), (by omega)⟩, _, rfl, _, _, rfl, rfl, ⟨(by decide), (by decide), (by omega)⟩, _, _, rfl, rfl, _, rfl, _, _, rfl, rfl, ?_⟩
  have e := wire_eq ha hv
  show Q (.int (Builtin.bitOr (Builtin.bitOr ((1 - (Sa67.ones v : Int) % 2) * 2 ^ ((17 : Nat) : Int).toNat) ((a : Int) * 2 ^ ((16 : Nat) : Int).toNat)) (v : Int))) H1
  rw [e]
  exact q _ s1
end
end Bt
end
section
set_option Elab.async false
set_option linter.all false
set_option maxRecDepth 100000
set_option maxHeartbeats 4000000
/-! The defs of replies.py. -/
namespace Bt
open PySem PySem.Spec PyProof.Rows L2
open Sa67 (toOf sends subOf countOf many mode onWire gone)
section
variable {P : Program} {w : World} {K : PySem.W.Frag} {mg : Str → Option Value} {base : Heap} {C : Addr}
/-- a terminal in, a value out -/
def spT (C : Addr) (f : Mir → V) : Sp := fun vs H Q _ => ∃ p M A g, vs = [.ref p] ∧ TermAt C H p M A g ∧ Q (f M) H
theorem spT_len {f : Mir → V} {x : Str} : ∀ vs H Q E, spT C f vs H Q E → vs.length = [x].length := fun vs H Q E h => by
  obtain ⟨p, M, A, g, rfl, _⟩ := h
  rfl
/-- the terminal is M' behind it -/
def Post (C : Addr) (H : Hp) (g : Addr → Nat) (p : Addr) (M' : Mir) (Q : VK) : Prop := ∀ H' A' g', TermAt C H' p M' A' g' → Frm H g H' g' → Q .non H'

theorem sc_is_busy : FnScope ["terminal"] ["terminal"] (defScope (top 17)) := ⟨rfl, rfl, rfl, by decide +kernel, rfl, by decide +kernel, by decide +kernel⟩
theorem ok_is_busy (T : Txt K mg C) : Kn P w K mg base 2 "is_busy" ["terminal"] (spT C fun M => .bl (busy M)) := by
  refine T.g_is_busy.kn sc_is_busy (fun _ _ _ _ _ _ us hl => match us, hl with | [_], _ => rfl) spT_len (fun f cdv A outer s H vs Q E hr h => ?_)
  obtain ⟨p, M, A, g, rfl, hT, q⟩ := h
  refine ⟨_, (pss_one (ps_ret (pe_cmpR op_eq (pe_kn (ok_bit_of T) hr (pa_cons (pe_tf T 1 (pv 0)) (pa_cons pe_int pa_nil))) pe_int (nomark _)))), ?_⟩
  refine ⟨_, rfl, p, M, A, g, _, rfl, hT, rfl, _, 0, rfl, trivial, rfl, ?_⟩
  have e : decide (V.int (bitOf M.flags 0 : Int) = V.int ((1 : Nat) : Int)) = busy M := (dec_nat _ _).trans (tb_eq _ _).symm
  show Q (.bl (decide (V.int (bitOf M.flags 0 : Int) = V.int ((1 : Nat) : Int)))) H
  rw [e]
  exact q

theorem sc_may_hand_over_control : FnScope ["terminal"] ["terminal"] (defScope (top 18)) := ⟨rfl, rfl, rfl, by decide +kernel, rfl, by decide +kernel, by decide +kernel⟩
theorem ok_may_hand_over_control (T : Txt K mg C) : Kn P w K mg base 2 "may_hand_over_control" ["terminal"] (spT C fun M => .bl (M.flags.testBit 4)) := by
  refine T.g_may_hand_over_control.kn sc_may_hand_over_control (fun _ _ _ _ _ _ us hl => match us, hl with | [_], _ => rfl) spT_len (fun f cdv A outer s H vs Q E hr h => ?_)
  obtain ⟨p, M, A, g, rfl, hT, q⟩ := h
  refine ⟨_, (pss_one (ps_ret (pe_cmpR op_eq (pe_kn (ok_bit_of T) hr (pa_cons (pe_tf T 1 (pv 0)) (pa_cons pe_int pa_nil))) pe_int (nomark _)))), ?_⟩
  refine ⟨_, rfl, p, M, A, g, _, rfl, hT, rfl, _, 4, rfl, trivial, rfl, ?_⟩
  have e : decide (V.int (bitOf M.flags 4 : Int) = V.int ((1 : Nat) : Int)) = M.flags.testBit 4 := (dec_nat _ _).trans (tb_eq _ _).symm
  show Q (.bl (decide (V.int (bitOf M.flags 4 : Int) = V.int ((1 : Nat) : Int)))) H
  rw [e]
  exact q

theorem sc_shown_fault : FnScope ["terminal"] ["terminal"] (defScope (top 19)) := ⟨rfl, rfl, rfl, by decide +kernel, rfl, by decide +kernel, by decide +kernel⟩
theorem ok_shown_fault (T : Txt K mg C) : Kn P w K mg base 2 "shown_fault" ["terminal"] (spT C fun M => .int (fault M)) := by
  refine T.g_shown_fault.kn sc_shown_fault (fun _ _ _ _ _ _ us hl => match us, hl with | [_], _ => rfl) spT_len (fun f cdv A outer s H vs Q E hr h => ?_)
  obtain ⟨p, M, A, g, rfl, hT, q⟩ := h
  refine ⟨_, (pss_cons (ps_if (pt_cmpR op_eq (pe_tf T 13 (pv 0)) pe_int (nomark _)) (pss_one (ps_ret pe_int)) pss_nil)
      (pss_one (ps_ret (pe_kn (ok_bit_of T) hr (pa_cons (pe_tf T 1 (pv 0)) (pa_cons pe_int pa_nil)))))), ?_⟩
  refine ⟨_, rfl, p, M, A, g, _, rfl, hT, rfl, rfl, _, rfl, ?_⟩
  have e : decide (V.int (M.hushed : Int) = V.int ((1 : Nat) : Int)) = decide (M.hushed = 1) := dec_nat _ _
  show if decide (V.int (M.hushed : Int) = V.int ((1 : Nat) : Int)) = true then _ else _
  rw [e]
  have q : Q (V.int ((if M.hushed = 1 then 0 else bitOf M.flags 3 : Nat) : Int)) H := q
  refine ite2 (fun h => ?_) fun h => ?_
  · rw [if_pos (of_decide_eq_true h)] at q
    exact q
  · rw [if_neg (fun z => h (decide_eq_true z))] at q
    exact ⟨_, rfl, p, M, A, g, _, rfl, hT, rfl, _, 3, rfl, trivial, q⟩

theorem or_add {x a : Int} (k : Nat) (m : Int) (hx : x = m * 2 ^ k) (hm : 0 ≤ m) (h0 : 0 ≤ a) (h1 : a < 2 ^ k) : Builtin.bitOr x a = x + a := by
  subst hx
  rw [Bits.bitOr_join' h0 h1 hm]
  exact Int.add_comm _ _
theorem status_eq {M : Mir} (wf : Wf M) {t : Nat} (ht : t ≤ 1) : Builtin.bitOr (Builtin.bitOr (Builtin.bitOr (Builtin.bitOr (Builtin.bitOr (Builtin.bitOr (Builtin.bitOr ((M.address : Int) * 2 ^ 11) ((M.error : Int) * 2 ^ 10)) ((bitOf M.flags 1 : Int) * 2 ^ 8)) ((M.toAll : Int) * 2 ^ 4))
    ((bitOf M.flags 0 : Int) * 2 ^ 3)) ((bitOf M.flags 2 : Int) * 2 ^ 2)) ((t : Int) * 2 ^ 1)) (fault M : Int) = (statusOf M t : Nat) := by
  have h2 := wf.er
  have h3 := wf.ta
  have a1 := bitOf_le M.flags 1
  have a0 := bitOf_le M.flags 0
  have a2 := bitOf_le M.flags 2
  have a3 : fault M ≤ 1 := by
    unfold fault
    split
    · omega
    · exact bitOf_le _ _
  unfold statusOf
  generalize fault M = z at *
  generalize bitOf M.flags 1 = b1 at *
  generalize bitOf M.flags 0 = b0 at *
  generalize bitOf M.flags 2 = b2 at *
  have e0 : Builtin.bitOr ((M.address : Int) * 2 ^ 11) ((M.error : Int) * 2 ^ 10) = (M.address : Int) * 2 ^ 11 + (M.error : Int) * 2 ^ 10 := or_add 11 ((M.address : Int)) (by omega) (by omega) (by omega) (by omega)
  rw [e0]
  have e1 : Builtin.bitOr ((M.address : Int) * 2 ^ 11 + (M.error : Int) * 2 ^ 10) ((b1 : Int) * 2 ^ 8) = (M.address : Int) * 2 ^ 11 + (M.error : Int) * 2 ^ 10 + (b1 : Int) * 2 ^ 8 := or_add 10 ((M.address : Int) * 2 + M.error) (by omega) (by omega) (by omega) (by omega)
  rw [e1]
  have e2 : Builtin.bitOr ((M.address : Int) * 2 ^ 11 + (M.error : Int) * 2 ^ 10 + (b1 : Int) * 2 ^ 8) ((M.toAll : Int) * 2 ^ 4) = (M.address : Int) * 2 ^ 11 + (M.error : Int) * 2 ^ 10 + (b1 : Int) * 2 ^ 8 + (M.toAll : Int) * 2 ^ 4 := or_add 8 ((M.address : Int) * 8 + M.error * 4 + b1) (by omega) (by omega) (by omega) (by omega)
  rw [e2]
  have e3 : Builtin.bitOr ((M.address : Int) * 2 ^ 11 + (M.error : Int) * 2 ^ 10 + (b1 : Int) * 2 ^ 8 + (M.toAll : Int) * 2 ^ 4) ((b0 : Int) * 2 ^ 3) = (M.address : Int) * 2 ^ 11 + (M.error : Int) * 2 ^ 10 + (b1 : Int) * 2 ^ 8 + (M.toAll : Int) * 2 ^ 4 + (b0 : Int) * 2 ^ 3 := or_add 4 ((M.address : Int) * 128 + M.error * 64 + b1 * 16 + M.toAll) (by omega) (by omega) (by omega) (by omega)
  rw [e3]
  have e4 : Builtin.bitOr ((M.address : Int) * 2 ^ 11 + (M.error : Int) * 2 ^ 10 + (b1 : Int) * 2 ^ 8 + (M.toAll : Int) * 2 ^ 4 + (b0 : Int) * 2 ^ 3) ((b2 : Int) * 2 ^ 2) = (M.address : Int) * 2 ^ 11 + (M.error : Int) * 2 ^ 10 + (b1 : Int) * 2 ^ 8 + (M.toAll : Int) * 2 ^ 4 + (b0 : Int) * 2 ^ 3 + (b2 : Int) * 2 ^ 2 := or_add 3 ((M.address : Int) * 256 + M.error * 128 + b1 * 32 + M.toAll * 2 + b0) (by omega) (by omega) (by omega) (by omega)
  rw [e4]
  have e5 : Builtin.bitOr ((M.address : Int) * 2 ^ 11 + (M.error : Int) * 2 ^ 10 + (b1 : Int) * 2 ^ 8 + (M.toAll : Int) * 2 ^ 4 + (b0 : Int) * 2 ^ 3 + (b2 : Int) * 2 ^ 2) ((t : Int) * 2 ^ 1) = (M.address : Int) * 2 ^ 11 + (M.error : Int) * 2 ^ 10 + (b1 : Int) * 2 ^ 8 + (M.toAll : Int) * 2 ^ 4 + (b0 : Int) * 2 ^ 3 + (b2 : Int) * 2 ^ 2 + (t : Int) * 2 ^ 1 := or_add 2 ((M.address : Int) * 512 + M.error * 256 + b1 * 64 + M.toAll * 4 + b0 * 2 + b2) (by omega) (by omega) (by omega) (by omega)
  rw [e5]
  have e6 : Builtin.bitOr ((M.address : Int) * 2 ^ 11 + (M.error : Int) * 2 ^ 10 + (b1 : Int) * 2 ^ 8 + (M.toAll : Int) * 2 ^ 4 + (b0 : Int) * 2 ^ 3 + (b2 : Int) * 2 ^ 2 + (t : Int) * 2 ^ 1) ((z : Int)) = (M.address : Int) * 2 ^ 11 + (M.error : Int) * 2 ^ 10 + (b1 : Int) * 2 ^ 8 + (M.toAll : Int) * 2 ^ 4 + (b0 : Int) * 2 ^ 3 + (b2 : Int) * 2 ^ 2 + (t : Int) * 2 ^ 1 + (z : Int) := or_add 1 ((M.address : Int) * 1024 + M.error * 512 + b1 * 128 + M.toAll * 8 + b0 * 4 + b2 * 2 + t) (by omega) (by omega) (by omega) (by omega)
  rw [e6]
  omega

def spStatus (C : Addr) : Sp := fun vs H Q _ => ∃ p M A g, ∃ t : Nat, vs = [.ref p, .int t] ∧ TermAt C H p M A g ∧ Wf M ∧ t ≤ 1 ∧ Q (.int (statusOf M t)) H
theorem sc_status_of : FnScope ["terminal", "control_taken", "status"] ["terminal", "control_taken"] (defScope (top 20)) := ⟨rfl, rfl, rfl, by decide +kernel, rfl, by decide +kernel, by decide +kernel⟩
theorem ok_status_of (T : Txt K mg C) : Kn P w K mg base 3 "status_of" ["terminal", "control_taken"] (spStatus C) := by
  refine T.g_status_of.kn sc_status_of (fun _ _ _ _ _ _ us hl => match us, hl with | [_, _], _ => rfl) (fun vs H Q E h => ?_) (fun f cdv A outer s H vs Q E hr h => ?_)
  · obtain ⟨p, M, A, g, t, rfl, _⟩ := h
    rfl
  obtain ⟨p, M, A, g, t, rfl, hT, wf, ht, q⟩ := h
  refine ⟨_, (pss_cons (ps_set (i := 2) sc_status_of.nd rfl (Or.inl rfl) (pe_op op_shl (pe_tf T 0 (pv 0)) pe_int))
      (pss_cons (ps_set (i := 2) sc_status_of.nd rfl (Or.inl rfl) (pe_op op_or (pv 2) (pe_op op_shl (pe_tf T 10 (pv 0)) pe_int)))
      (pss_cons (ps_set (i := 2) sc_status_of.nd rfl (Or.inl rfl) (pe_op op_or (pv 2) (pe_op op_shl (pe_kn (ok_bit_of T) hr (pa_cons (pe_tf T 1 (pv 0)) (pa_cons pe_int pa_nil))) pe_int)))
      (pss_cons (ps_set (i := 2) sc_status_of.nd rfl (Or.inl rfl) (pe_op op_or (pv 2) (pe_op op_shl (pe_tf T 11 (pv 0)) pe_int)))
      (pss_cons (ps_set (i := 2) sc_status_of.nd rfl (Or.inl rfl) (pe_op op_or (pv 2) (pe_op op_shl (pe_kn (ok_bit_of T) hr (pa_cons (pe_tf T 1 (pv 0)) (pa_cons pe_int pa_nil))) pe_int)))
      (pss_cons (ps_set (i := 2) sc_status_of.nd rfl (Or.inl rfl) (pe_op op_or (pv 2) (pe_op op_shl (pe_kn (ok_bit_of T) hr (pa_cons (pe_tf T 1 (pv 0)) (pa_cons pe_int pa_nil))) pe_int)))
      (pss_cons (ps_set (i := 2) sc_status_of.nd rfl (Or.inl rfl) (pe_op op_or (pv 2) (pe_op op_shl (pv 1) pe_int)))
      (pss_one (ps_ret (pe_op op_or (pv 2) (pe_kn (ok_shown_fault T) hr (pa_cons (pv 0) pa_nil)))))))))))), ?_⟩
  have had := wf.ad
  have her := wf.er
  have hta := wf.ta
  have a1 := bitOf_le M.flags 1
  have a0 := bitOf_le M.flags 0
  have a2 := bitOf_le M.flags 2
  refine ⟨_, rfl, p, M, A, g, _, rfl, hT, rfl, _, _, rfl, rfl, ⟨(by decide), (by decide), (by omega)⟩, ?_⟩
  refine ⟨_, rfl, _, rfl, p, M, A, g, _, rfl, hT, rfl, _, _, rfl, rfl, ⟨(by decide), (by decide), (by omega)⟩, _, _, rfl, rfl, ?_⟩
  refine ⟨_, rfl, _, rfl, p, M, A, g, _, rfl, hT, rfl, _, 1, rfl, trivial, _, _, rfl, rfl, ⟨(by decide), (by decide), (by omega)⟩, _, _, rfl, rfl, ?_⟩
  refine ⟨_, rfl, _, rfl, p, M, A, g, _, rfl, hT, rfl, _, _, rfl, rfl, ⟨(by decide), (by decide), (by omega)⟩, _, _, rfl, rfl, ?_⟩
  refine ⟨_, rfl, _, rfl, p, M, A, g, _, rfl, hT, rfl, _, 0, rfl, trivial, _, _, rfl, rfl, ⟨(by decide), (by decide), (by omega)⟩, _, _, rfl, rfl, ?_⟩
  refine ⟨_, rfl, _, rfl, p, M, A, g, _, rfl, hT, rfl, _, 2, rfl, trivial, _, _, rfl, rfl, ⟨(by decide), (by decide), (by omega)⟩, _, _, rfl, rfl, ?_⟩
  refine ⟨_, rfl, _, rfl, _, _, rfl, rfl, ⟨(by decide), (by decide), (by omega)⟩, _, _, rfl, rfl, ?_⟩
  refine ⟨_, rfl, _, rfl, p, M, A, g, rfl, hT, _, _, rfl, rfl, ?_⟩
  have e := status_eq wf ht
  exact (congrArg (fun z => Q (V.int z) H) e).mpr q

theorem nums_snoc {l : List Nat} {i n : Nat} (f : Nat → Nat) (h : l[i]? = some n) : nums ((l.take i).map f) ++ [V.int (f n : Int)] = nums ((l.take (i + 1)).map f) := by
  have e : l.take (i + 1) = l.take i ++ [n] := by rw [List.take_succ, h]; rfl
  rw [e, List.map_append]
  unfold nums
  rw [List.map_append]
  rfl
theorem nums_inv {l : List Nat} {i : Nat} {x : V} (h : (nums l)[i]? = some x) : ∃ n, l[i]? = some n ∧ x = V.int (n : Int) := by
  unfold nums at h
  rw [List.getElem?_map] at h
  cases e : l[i]? with
  | none => rw [e] at h; cases h
  | some n => rw [e] at h; exact ⟨n, rfl, (Option.some.inj h).symm⟩
def spSend (C : Addr) : Sp := fun vs H Q _ => ∃ p M A g d, ∃ (st : Nat) (l : List Nat), vs = [.ref p, .int st, .ref d] ∧ TermAt C H p M A g ∧ H d = some (.lst (nums l)) ∧ g d = 0 ∧ st < 65536 ∧ (∀ x ∈ l, x < 65536) ∧ l.length ≤ 32 ∧ Post C H g p (send M st l) Q
theorem sc_send : FnScope ["terminal", "status", "data", "words", "word"] ["terminal", "status", "data"] (defScope (top 21)) := ⟨rfl, rfl, rfl, by decide +kernel, rfl, by decide +kernel, by decide +kernel⟩
theorem ok_send (T : Txt K mg C) : Kn P w K mg base 4 "send" ["terminal", "status", "data"] (spSend C) := by
  refine T.g_send.kn sc_send (fun _ _ _ _ _ _ us hl => match us, hl with | [_, _, _], _ => rfl) (fun vs H Q E h => ?_) (fun f cdv A outer s H vs Q E hr h => ?_)
  · obtain ⟨p, M, A, g, d, st, l, rfl, _⟩ := h
    rfl
  obtain ⟨p, M, A, g, d, st, l, rfl, hT, hd, gd, hst, hl, hn, q⟩ := h
  refine ⟨_, (pss_cons (ps_ts T 8 (pv 0) (pv 1))
      (pss_cons (ps_set (i := 3) sc_send.nd rfl (Or.inl rfl) (pe_lst (pa_cons (pe_kn (ok_on_the_wire T) hr (pa_cons (pe_cn T.c_COMMAND_SYNC) (pa_cons (pv 1) pa_nil))) pa_nil)))
      (pss_cons (ps_expr (pe_bm PySem.F.plainAttrs_list PySem.F.slot_list_extend PySem.F.type_list_extend mt_extend (pv 3) (pa_cons (pe_lc (own := [("word", 4)]) rfl sc_send.nd (pi_list (pv 2)) (blkOk_by (by show blkC ["terminal", "status", "data", "words", "word"] (defScope (top 21)) _ [("word", 4)] = true; decide +kernel)) (fun _ _ _ _ _ => pg_name (i := 4) sc_send.nd rfl (Or.inl rfl)) (fun _ _ _ _ _ => pts_nil) (fun _ _ _ _ _ => (pe_kn (ok_on_the_wire T) hr (pa_cons (pe_cn T.c_DATA_SYNC) (pa_cons (pv 4) pa_nil))))) pa_nil)))
      (pss_one (ps_tse T (pv 0) (pv 3)))))), ?_⟩
  refine ⟨_, rfl, _, rfl, p, M, A, g, { M with lastStatus := st }, rfl, hT, ⟨fun _ => rfl, rfl, rfl, rfl, rfl, rfl⟩, fun H1 T1 F1 => ?_⟩
  refine ⟨_, rfl, 0, st, rfl, ⟨by omega, hst⟩, fun H2 S2 => ⟨(by show 1 ≤ sizeLine; decide), fun a ha => ?_⟩⟩
  have T2 := T1.grow S2
  have ga : g a = 0 := T2.fr a ha
  have S3 := same_new (o := .lst [V.int (onWire 0 st : Int)]) ha
  have hd3 := S3 _ _ (S2 _ _ (F1 d _ hd gd).1)
  refine ⟨_, rfl, .inl ⟨rfl, _, SqL.of upd_same⟩, _, rfl, d, rfl, ⟨_, SqL.of hd3⟩, fun D hD => lc_list (K := K) (a := d) (xs := nums l)
    (fun i H' => Same (upd H2 a (.lst [V.int (onWire 0 st : Int)])) H' ∧ H' D = some (.lst (nums ((l.take i).map (onWire 1))))) ⟨same_new hD, upd_same⟩ (fun i H' _ ⟨s4, _⟩ => SqL.of (s4 _ _ hd3)) ?_ ?_⟩
  · rintro i x H' hx ⟨s4, hD'⟩
    obtain ⟨n, hn', rfl⟩ := nums_inv hx
    refine ⟨rfl, _, rfl, 1, n, rfl, ⟨by omega, hl n (List.mem_of_getElem? hn')⟩, fun H5 S5 => ⟨_, S5 _ _ hD', ?_, ?_, ?_⟩⟩
    · rw [nums_len, List.length_map, List.length_take]
      exact Nat.lt_of_le_of_lt (Nat.le_trans (Nat.min_le_right _ _) hn) (by decide)
    · exact fun b o e => by
        rw [upd_ne (ne_of_none e hD)]
        exact S5 b o (s4 b o e)
    · rw [upd_same, nums_snoc (onWire 1) hn']
  · rintro H' ⟨s4, hD'⟩
    rw [nums_len, List.take_length] at hD'
    have h4a := s4 a _ upd_same
    refine ⟨a, D, _, _, rfl, rfl, h4a, hD', ?_, ?_⟩
    · rw [nums_len, List.length_map]
      show 1 + l.length ≤ sizeLine
      exact Nat.le_trans (Nat.add_le_add_left hn 1) (by decide)
    have T4 := (T2.grow S3).grow s4
    have n5 : ∀ {b : Addr} {x : Nat}, g b = x → x ≠ 0 → b ≠ a := fun hb hx => ne_tag hb ga hx
    have T5 : TermAt C (upd H' a (.lst ([V.int (onWire 0 st : Int)] ++ nums (l.map (onWire 1))))) p { M with lastStatus := st } A g :=
      ⟨by rw [upd_ne (n5 T4.gp (by decide))]; exact T4.ins, by rw [upd_ne (n5 T4.gal (by decide))]; exact T4.al, by rw [upd_ne (n5 T4.ggi (by decide))]; exact T4.gi, by rw [upd_ne (n5 T4.ggo (by decide))]; exact T4.go, by rw [upd_ne (n5 T4.gse (by decide))]; exact T4.se, by rw [upd_ne (n5 T4.gta (by decide))]; exact T4.ta,
        fun i h => by rw [upd_ne (n5 (T4.galI i h) (by omega))]; exact T4.alI i h, fun i h => by rw [upd_ne (n5 (T4.ggiI i h) (by omega))]; exact T4.giI i h, fun i h => by rw [upd_ne (n5 (T4.ggoI i h) (by omega))]; exact T4.goI i h, T4.gp, T4.gal, T4.ggi, T4.ggo, T4.gse, T4.gta, T4.galI, T4.ggiI, T4.ggoI, fun b h => T4.fr b (upd_none h)⟩
    refine ⟨_, rfl, _, rfl, p, _, A, g, a, onWire 0 st :: l.map (onWire 1), rfl, rfl, T5, upd_same, ga, fun H6 T6 F6 => ?_⟩
    refine q H6 _ _ T6 fun b o e z => ?_
    have e2 := S2 b o (F1 b o e z).1
    have nb : b ≠ a := ne_of_none e2 ha
    refine ⟨F6 b o (ne_tag z T4.gp (by decide)) ?_, retag_zero nb z⟩
    rw [upd_ne nb]
    exact s4 b o (S3 b o e2)

def spReply (C : Addr) : Sp := fun vs H Q _ => ∃ p M A g d, ∃ (c : Nat) (l : List Nat), vs = [.ref p, .int c, .ref d] ∧ TermAt C H p M A g ∧ Wf M ∧ H d = some (.lst (nums l)) ∧ g d = 0 ∧ (∀ x ∈ l, x < 65536) ∧ l.length ≤ 32 ∧ Post C H g p (reply M c l) Q
theorem sc_reply : FnScope ["terminal", "command", "data"] ["terminal", "command", "data"] (defScope (top 22)) := ⟨rfl, rfl, rfl, by decide +kernel, rfl, by decide +kernel, by decide +kernel⟩
theorem ok_reply (T : Txt K mg C) : Kn P w K mg base 5 "reply" ["terminal", "command", "data"] (spReply C) := by
  refine T.g_reply.kn sc_reply (fun _ _ _ _ _ _ us hl => match us, hl with | [_, _, _], _ => rfl) (fun vs H Q E h => ?_) (fun f cdv A outer s H vs Q E hr h => ?_)
  · obtain ⟨p, M, A, g, d, c, l, rfl, _⟩ := h
    rfl
  obtain ⟨p, M, A, g, d, c, l, rfl, hT, wf, hd, gd, hl, hn, q⟩ := h
  refine ⟨_, (pss_one (ps_if (pt_not (pt_val (pe_kn (ok_is_to_all T) hr (pa_cons (pv 1) pa_nil)))) (pss_one (ps_expr (pe_kn (ok_send T) hr (pa_cons (pv 0) (pa_cons (pe_kn (ok_status_of T) hr (pa_cons (pv 0) (pa_cons pe_int pa_nil))) (pa_cons (pv 2) pa_nil)))))) pss_nil)), ?_⟩
  refine ⟨_, rfl, c, rfl, trivial, _, rfl, ?_⟩
  unfold reply at q
  show if (!Sa67.toAll c) = true then _ else _
  cases h : Sa67.toAll c with
  | true =>
    rw [if_pos h] at q
    exact q H A g hT (Frm.refl H g)
  | false =>
    rw [if_neg (by rw [h]; exact Bool.false_ne_true)] at q
    exact ⟨_, rfl, _, rfl, p, M, A, g, 0, rfl, hT, wf, by omega, _, rfl, p, M, A, g, d, _, l, rfl, hT, hd, gd, status_lt wf (by omega), hl, hn, q⟩

def spReplyError (C : Addr) : Sp := fun vs H Q _ => ∃ p M A g, ∃ (c : Nat), vs = [.ref p, .int c] ∧ TermAt C H p M A g ∧ Wf M ∧ Post C H g p (replyError M c) Q
theorem sc_reply_error : FnScope ["terminal", "command"] ["terminal", "command"] (defScope (top 23)) := ⟨rfl, rfl, rfl, by decide +kernel, rfl, by decide +kernel, by decide +kernel⟩
theorem ok_reply_error (T : Txt K mg C) : Kn P w K mg base 6 "reply_error" ["terminal", "command"] (spReplyError C) := by
  refine T.g_reply_error.kn sc_reply_error (fun _ _ _ _ _ _ us hl => match us, hl with | [_, _], _ => rfl) (fun vs H Q E h => ?_) (fun f cdv A outer s H vs Q E hr h => ?_)
  · obtain ⟨p, M, A, g, c, rfl, _⟩ := h
    rfl
  obtain ⟨p, M, A, g, c, rfl, hT, wf, q⟩ := h
  refine ⟨_, (pss_cons (ps_ts T 10 (pv 0) pe_int)
      (pss_one (ps_expr (pe_kn (ok_reply T) hr (pa_cons (pv 0) (pa_cons (pv 1) (pa_cons (pe_lst pa_nil) pa_nil))))))), ?_⟩
  refine ⟨_, rfl, p, M, A, g, { M with error := 1 }, rfl, hT, ⟨fun _ => rfl, rfl, rfl, rfl, rfl, rfl⟩, fun H1 T1 F1 => ?_⟩
  refine ⟨_, rfl, _, rfl, Nat.zero_le _, fun d hd => ?_⟩
  refine ⟨p, _, A, g, d, c, [], rfl, T1.grow (same_new hd), wf.err, upd_same, T1.fr d hd, (by simp), (by simp), fun H2 A2 g2 T2 F2 => ?_⟩
  exact q H2 A2 g2 T2 ((F1.trans (Frm.same g (same_new hd))).trans F2)

def spFetch (C : Addr) : Sp := fun vs H Q _ => ∃ p M A g, vs = [.ref p] ∧ TermAt C H p M A g ∧ ∀ H' A' g' a, H' a = some (.lst (nums M.toSend)) → TermAt C H' p { M with toSend := [] } A' g' → Frm H g H' g' → Q (.ref a) H'
theorem sc_fetch : FnScope ["terminal", "words"] ["terminal"] (defScope (top 24)) := ⟨rfl, rfl, rfl, by decide +kernel, rfl, by decide +kernel, by decide +kernel⟩
theorem ok_fetch (T : Txt K mg C) : Kn P w K mg base 1 "fetch" ["terminal"] (spFetch C) := by
  refine T.g_fetch.kn sc_fetch (fun _ _ _ _ _ _ us hl => match us, hl with | [_], _ => rfl) (fun vs H Q E h => ?_) (fun f cdv A outer s H vs Q E hr h => ?_)
  · obtain ⟨p, M, A, g, rfl, _⟩ := h
    rfl
  obtain ⟨p, M, A, g, rfl, hT, q⟩ := h
  refine ⟨_, (pss_cons (ps_set (i := 1) sc_fetch.nd rfl (Or.inl rfl) (pe_tf T 14 (pv 0)))
      (pss_cons (ps_tse T (pv 0) (pe_lst pa_nil))
      (pss_one (ps_ret (pv 1))))), ?_⟩
  refine ⟨_, rfl, p, M, A, g, _, rfl, hT, rfl, Nat.zero_le _, fun d hd => ?_⟩
  have S1 := same_new (o := .lst []) hd
  have T1 := hT.grow S1
  refine ⟨_, rfl, p, M, A, g, d, [], rfl, rfl, T1, upd_same, hT.fr d hd, fun H2 T2 F2 => ?_⟩
  refine ⟨_, rfl, q H2 _ _ A.se (F2 _ _ (ne_tag hT.gse hT.gp (by decide)) (S1 _ _ hT.se)) T2 fun b o e z => ?_⟩
  exact ⟨F2 b o (ne_tag z hT.gp (by decide)) (S1 b o e), retag_zero (ne_of_none e hd) z⟩
end
end Bt
end
section
set_option Elab.async false
set_option linter.all false
set_option maxRecDepth 100000
set_option maxHeartbeats 4000000
/-! The defs of state.py. -/
namespace Bt
open PySem PySem.Spec PyProof.Rows L2
/-! ### what grows: all that stood stands, with its owner -/
def setT (g : Addr → Nat) (l : Addr) (r : Nat) : Addr → Nat := fun b => if b = l then r else g b
theorem setT_new {g : Addr → Nat} {l : Addr} {r : Nat} : setT g l r l = r := by unfold setT; rw [if_pos rfl]
theorem setT_ne {g : Addr → Nat} {l b : Addr} {r : Nat} (h : b ≠ l) : setT g l r b = g b := by unfold setT; rw [if_neg h]
structure Ext (p : Addr) (H : Hp) (g : Addr → Nat) (H' : Hp) (g' : Addr → Nat) : Prop where
  st : ∀ b o, b ≠ p → H b = some o → H' b = some o ∧ g' b = g b
  fr : ∀ b, H' b = none → g' b = 0
  ow : g' p = g p
  pp : H p ≠ none → H' p ≠ none
theorem Ext.refl {p : Addr} {H : Hp} {g : Addr → Nat} (f : ∀ b, H b = none → g b = 0) : Ext p H g H g := ⟨fun b o _ e => ⟨e, rfl⟩, f, rfl, fun h => h⟩
theorem Ext.trans {p : Addr} {H H1 H2 : Hp} {g g1 g2 : Addr → Nat} (a : Ext p H g H1 g1) (b : Ext p H1 g1 H2 g2) : Ext p H g H2 g2 :=
  ⟨fun c o n e => ⟨(b.st c o n (a.st c o n e).1).1, (b.st c o n (a.st c o n e).1).2.trans (a.st c o n e).2⟩, b.fr, b.ow.trans a.ow, fun h => b.pp (a.pp h)⟩
theorem Ext.new {p : Addr} {H H' : Hp} {g : Addr → Nat} {l : Addr} {o : HO} {r : Nat} (f : ∀ b, H b = none → g b = 0) (hp : H p ≠ none) (s : Same H H') (hl : H l = none) (hl' : H' l = some o) : Ext p H g H' (setT g l r) := by
  have np : p ≠ l := fun e => hp (by rw [e]; exact hl)
  refine ⟨fun b u _ e => ⟨s b u e, setT_ne (ne_of_none e hl)⟩, fun b e => ?_, setT_ne np, fun _ e => ?_⟩
  · rw [setT_ne (fun q => by rw [q, hl'] at e; cases e)]
    exact f b (s.free e)
  · exact hp (s.free e)
theorem Ext.put {p : Addr} {H H' : Hp} {g : Addr → Nat} {o : HO} (f : ∀ b, H b = none → g b = 0) (hp : H p ≠ none) (h : ∀ b, b ≠ p → H' b = H b) (hp' : H' p = some o) : Ext p H g H' g := by
  refine ⟨fun b u n e => ⟨by rw [h b n]; exact e, rfl⟩, fun b e => ?_, rfl, fun _ e => by rw [hp'] at e; cases e⟩
  by_cases n : b = p
  · subst n
    rw [hp'] at e
    cases e
  · exact f b (by rw [← h b n]; exact e)
theorem Ext.frm {p : Addr} {H H' : Hp} {g g' : Addr → Nat} (e : Ext p H g H' g') (h : g p ≠ 0) : Frm H g H' g' := fun b o q z => by
  have n : b ≠ p := fun y => h (by rw [← y]; exact z)
  exact ⟨(e.st b o n q).1, (e.st b o n q).2.trans z⟩
/-! ### methods -/
structure KnM (P : Program) (w : World) (K : PySem.W.Frag) (mg : Str → Option Value) (base : Heap) (C : Addr) (k : Nat) (m : Str) (ps : List Str) (sp : Sp) : Prop where
  ex : ∃ (f : Addr) (fd : FuncData), Meth K C m f ∧ Binds K fd ps [] ∧ FnOk P w K mg base CX0 k f fd ps sp
section
variable {X : Cx} {C : Addr} {j k : Nat} {m : Str} {ps : List Str} {sp : Sp} {e o : Expr} {es : List Expr} {ta : TE} {t : TA} {apos pos pos' : Pos} {value : Expr} {f : Str} {tv : TE}
theorem pe_mt {pl : Sem Bool} (c : Cls X.K C) (F : KnM X.prog X.w X.K X.mg X.base C j m ps sp) (hr : Room k X.A) (he : PE X o ta) (ha : PA X (e :: es) t) (hj : j ≤ k := by decide)
    (hst : starEach (e :: es) X.env = (false, eval e X.env) :: starEach es X.env := by rfl) (hpl : (backTo pos (starEach es X.env)).any (·.1) = false := by rfl)
    (ht : eval (.Call (.Attribute o m apos) (e :: es) [] pos) X.env = (do
      let ov ← eval o X.env
      standAt apos.atName
      let (f, first) ← holding [ov] (getMethod ov m pl)
      callWith pos f first (backTo pos (starEach (e :: es) X.env)) (backToKw pos (keywordEach [] X.env))) := by rfl) :
    PE X (.Call (.Attribute o m apos) (e :: es) [] pos) (tMeth C m sp [] E0 ta t) := by
  obtain ⟨f, fd, a, b, d⟩ := F.ex
  exact pe_meth (pl := pl) he c a d (hr.mono hj) b .nil pass0 ha hst hpl ht
theorem pe_mt0 {pl : Sem Bool} (c : Cls X.K C) (F : KnM X.prog X.w X.K X.mg X.base C j m ps sp) (hr : Room k X.A) (he : PE X o ta) (hj : j ≤ k := by decide)
    (ht : eval (.Call (.Attribute o m apos) [] [] pos) X.env = (do
      let ov ← eval o X.env
      standAt apos.atName
      let (f, first) ← holding [ov] (getMethod ov m pl)
      callWith pos f first (backTo pos (starEach [] X.env)) (backToKw pos (keywordEach [] X.env))) := by rfl) :
    PE X (.Call (.Attribute o m apos) [] [] pos) (tMeth C m sp [] E0 ta tNil) := by
  obtain ⟨f, fd, a, b, d⟩ := F.ex
  exact pe_meth0 (pl := pl) he c a d (hr.mono hj) b .nil pass0 ht
theorem zip_put_pre {pre vl : List V} {i : Nat} {v : V} (hf : names[i]? = some f) (hp : pre.length = i) : putF f v (names.zip (pre ++ vl.drop i)) = names.zip ((pre ++ [v]) ++ vl.drop (i + 1)) := by
  rw [zip_put names_nd hf (by rw [List.length_append]; omega)]
  subst hp
  rw [List.take_left, List.append_assoc]
  congr 2
  show v :: List.drop (pre.length + 1) (pre ++ List.drop pre.length vl) = v :: List.drop (pre.length + 1) vl
  congr 1
  rw [List.drop_append, List.drop_eq_nil_of_le (by omega), List.nil_append, List.drop_drop]
  congr 1
  omega
def sTz (C : Addr) (i : Nat) (ta tv : TE) : TS := fun D σ H => tv σ H fun y H1 => ta σ H1 fun x H2 => ∃ (p dx : Addr) (pre vl : List V), x = .ref p ∧ H2 p = some (.ins C dx (names.zip (pre ++ vl.drop i))) ∧ pre.length = i ∧
  ∀ H', H' p = some (.ins C dx (names.zip ((pre ++ [y]) ++ vl.drop (i + 1)))) → (∀ b, b ≠ p → H' b = H2 b) → D.nx σ H'
/-- self.f = a value, the attributes ahead of it set -/
theorem ps_tz (T : Txt X.K X.mg C) (i : Nat) (ha : PE X o ta) (hv : PE X value tv) (hf : names[i]? = some f := by rfl) (hs : swapsWith value (some (.Attribute o f pos')) pos.line X.env = pure false := by rfl) : PS X (.Assign [.Attribute o f pos'] value pos) (sTz C i ta tv) := by
  intro pins s σ H D I h
  refine plainObj_wpAny_Assign_Attribute (thn (hv pins s σ H _ I h) fun u s1 ⟨y, H1, I1, ry, q⟩ => thn (ha pins s1 σ H1 _ I1 q) fun ov s2 ⟨x, H2, I2, rx, p, dx, pre, vl, ex, hp, hl, q2⟩ => ?_) hs
  subst ex
  obtain rfl : ov = Value.ref p := rx
  refine setattr_ok I2 hp T.cl (T.no hf) few ry fun s3 I3 => ⟨σ, _, I3, ?_⟩
  refine q2 _ ?_ fun b hb => upd_ne hb
  rw [upd_same, zip_put_pre hf hl]
end
section
variable {P : Program} {w : World} {K : PySem.W.Frag} {mg : Str → Option Value} {base : Heap} {C : Addr}
/-- drop_command, whatever stands behind the fifteenth attribute -/
def spDrop0 (C : Addr) : Sp := fun vs H Q _ => ∃ (p dx : Addr) (pre vl : List V), vs = [.ref p] ∧ H p = some (.ins C dx (names.zip (pre ++ vl.drop 15))) ∧ pre.length = 15 ∧ vl.length ≤ 20 ∧
  ∀ H' l, H l = none → H' l = some (.lst []) → H' p = some (.ins C dx (names.zip (pre ++ [.int 0, .int 0, .int 0, .int 0, .ref l]))) → (∀ b, b ≠ p → b ≠ l → H' b = H b) → Q .non H'
theorem sc_drop_command : FnScope ["self"] ["self"] (defScope (inClass (top 39) 2)) := ⟨rfl, rfl, rfl, by decide +kernel, rfl, by decide +kernel, by decide +kernel⟩
theorem ok_drop0 (T : Txt K mg C) : KnM P w K mg base C 1 "drop_command" ["self"] (spDrop0 C) := by
  obtain ⟨fa, fd, me, F⟩ := T.m_drop_command
  refine ⟨fa, fd, me, F.binds (fun _ _ _ _ _ _ us hl => match us, hl with | [_], _ => rfl), F.ok sc_drop_command (fun vs H Q E h => ?_) (fun cdv A outer s H vs Q E hr h => ?_)⟩
  · obtain ⟨p, dx, pre, vl, rfl, _⟩ := h
    rfl
  obtain ⟨p, dx, pre, vl, rfl, hp, hl, hv, q⟩ := h
  refine ⟨_, (pss_cons (ps_tz T 15 (pv 0) (pe_cn T.c_NOTHING))
      (pss_cons (ps_tz T 16 (pv 0) pe_int)
      (pss_cons (ps_tz T 17 (pv 0) pe_int)
      (pss_cons (ps_tz T 18 (pv 0) pe_int)
      (pss_one (ps_tz T 19 (pv 0) (pe_lst pa_nil))))))), ?_⟩
  refine ⟨_, rfl, p, dx, pre, vl, rfl, hp, hl, fun H1 h1 f1 => ?_⟩
  refine ⟨_, rfl, p, dx, _, vl, rfl, h1, (by rw [List.length_append, hl]; rfl), fun H2 h2 f2 => ?_⟩
  refine ⟨_, rfl, p, dx, _, vl, rfl, h2, (by rw [List.length_append, List.length_append, hl]; rfl), fun H3 h3 f3 => ?_⟩
  refine ⟨_, rfl, p, dx, _, vl, rfl, h3, (by rw [List.length_append, List.length_append, List.length_append, hl]; rfl), fun H4 h4 f4 => ?_⟩
  refine ⟨Nat.zero_le _, fun l hn => ?_⟩
  have nl : l ≠ p := fun e => by rw [e, h4] at hn; cases hn
  refine ⟨_, rfl, p, dx, _, vl, rfl, (same_new hn) _ _ h4, (by rw [List.length_append, List.length_append, List.length_append, List.length_append, hl]; rfl), fun H5 h5 f5 => ?_⟩
  refine q H5 l ?_ ?_ ?_ fun b b1 b2 => ?_
  · rw [← f1 l nl, ← f2 l nl, ← f3 l nl, ← f4 l nl]
    exact hn
  · rw [f5 l nl]
    exact upd_same
  · rw [h5, List.drop_eq_nil_of_le hv, List.append_nil]
    simp only [List.append_assoc]
    rfl
  · rw [f5 b b1, upd_ne b2, f4 b b1, f3 b b1, f2 b b1, f1 b b1]
def spDrop (C : Addr) : Sp := fun vs H Q _ => ∃ p M A g, vs = [.ref p] ∧ TermAt C H p M A g ∧ ∀ H' A' g', TermAt C H' p (drop M) A' g' → Frm H g H' g' → H' A.ta = some (.lst (nums M.taken)) → g' A.ta = 0 → Q .non H'
theorem KnM.imp {x : Str} {ps : List Str} {k : Nat} {sp sp' : Sp} (F : KnM P w K mg base C k x ps sp) (h : ∀ vs H Q E, sp' vs H Q E → sp vs H Q E) : KnM P w K mg base C k x ps sp' := by
  obtain ⟨f, fd, a, b, d⟩ := F.ex
  exact ⟨f, fd, a, b, d.imp h⟩
theorem ok_drop_command (T : Txt K mg C) : KnM P w K mg base C 1 "drop_command" ["self"] (spDrop C) := by
  refine (ok_drop0 T).imp fun vs H Q E h => ?_
  obtain ⟨p, M, A, g, rfl, hT, q⟩ := h
  refine ⟨p, A.dx, (vals M A).take 15, vals M A, rfl, hT.ins, rfl, Nat.le_refl _, fun H' l hl h1 h2 f => ?_⟩
  have gl : g l = 0 := hT.fr l hl
  have nlp : l ≠ p := fun e => by rw [e, hT.ins] at hl; cases hl
  have st : ∀ b o, b ≠ p → H b = some o → H' b = some o := fun b o hb e => by
    rw [f b hb (ne_of_none e hl)]
    exact e
  have n : ∀ {b : Addr} {x : Nat}, g b = x → x ≠ 1 → b ≠ p := fun hb hx => ne_tag hb hT.gp hx
  have r : ∀ {b : Addr} {x : Nat}, g b = x → x ≠ 0 → x ≠ 6 → retag g l A.ta 6 b = x := fun hb h0 h5 => retag_at hb gl hT.gta h0 h5
  have nta : A.ta ≠ l := ne_of_none hT.ta hl
  refine q H' { A with ta := l } (retag g l A.ta 6) ⟨?_, st _ _ (n hT.gal (by decide)) hT.al, st _ _ (n hT.ggi (by decide)) hT.gi, st _ _ (n hT.ggo (by decide)) hT.go, st _ _ (n hT.gse (by decide)) hT.se, h1,
    fun i h => st _ _ (n (hT.galI i h) (by omega)) (hT.alI i h), fun i h => st _ _ (n (hT.ggiI i h) (by omega)) (hT.giI i h), fun i h => st _ _ (n (hT.ggoI i h) (by omega)) (hT.goI i h),
    r hT.gp (by decide) (by decide), r hT.gal (by decide) (by decide), r hT.ggi (by decide) (by decide), r hT.ggo (by decide) (by decide), r hT.gse (by decide) (by decide), retag_new, fun i h => r (hT.galI i h) (by omega) (by omega), fun i h => r (hT.ggiI i h) (by omega) (by omega), fun i h => r (hT.ggoI i h) (by omega) (by omega), fun b h => ?_⟩
    (fun b o e z => ⟨st b o (n z (by decide)) e, retag_zero (ne_of_none e hl) z⟩) (st _ _ (n hT.gta (by decide)) hT.ta) (retag_old nta)
  · rw [h2]
    rfl
  · have nb : b ≠ l := fun e => by rw [e, h1] at h; cases h
    have nbp : b ≠ p := fun e => by rw [e, h2] at h; cases h
    refine retag_zero nb (hT.fr b ?_)
    rw [← f b nbp nb]
    exact h

/-! ### the rows at the beginning -/
theorem wipe_one (σ : L2.St) (i : Nat) (x : Option V) : wipe ((wipe σ [i]).set i x) [i] = wipe σ [i] := by
  show ((σ.set i none).set i x).set i none = σ.set i none
  rw [List.set_set, List.set_set]
def EvP (H : Hp) (D : Addr) (k : Nat) (H' : Hp) : Prop := Same H H' ∧ H' D = some (.lst (nums (List.replicate k 4294967295)))
theorem every_turn {H H' : Hp} {D : Addr} {k : Nat} (hD : H D = none) (hk : k < 32) (h : EvP H D k H') : ∃ acc, H' D = some (.lst acc) ∧ acc.length < sizeLine ∧ EvP H D (k + 1) (upd H' D (.lst (acc ++ [V.int 4294967295]))) := by
  obtain ⟨s1, hD'⟩ := h
  refine ⟨_, hD', ?_, ?_, ?_⟩
  · rw [nums_len, List.length_replicate]
    exact Nat.lt_of_lt_of_le hk (by decide)
  · exact fun b o e => by
      rw [upd_ne (ne_of_none e hD)]
      exact s1 b o e
  · rw [upd_same, List.replicate_succ']
    unfold nums
    rw [List.map_append]
    rfl
theorem refs_snoc (f : Nat → Addr) (i : Nat) (e : Addr) : refs i f ++ [V.ref e] = refs (i + 1) (fun j => if j = i then e else f j) := by
  unfold refs
  rw [range_snoc]
  congr 1
  · apply List.map_congr_left
    intro j hj
    have hj : j < i := List.mem_range.mp hj
    show _ = V.ref (if j = i then e else f j)
    rw [if_neg (by omega)]
  · show _ = [V.ref (if i = i then e else f i)]
    rw [if_pos rfl]
structure EmP (p : Addr) (H : Hp) (g : Addr → Nat) (rD r : Nat) (D : Addr) (k : Nat) (H' : Hp) : Prop where
  sm : Same H H'
  ex : ∃ g' f, Ext p H g H' g' ∧ H' D = some (.lst (refs k f)) ∧ g' D = rD ∧ ∀ j, j < k → H' (f j) = some (.lst []) ∧ g' (f j) = r + j
theorem empty_start {p : Addr} {H : Hp} {g : Addr → Nat} {rD r : Nat} {D : Addr} (fr : ∀ b, H b = none → g b = 0) (hp : H p ≠ none) (hD : H D = none) : EmP p H g rD r D 0 (upd H D (.lst [])) :=
  ⟨same_new hD, setT g D rD, fun _ => D, Ext.new fr hp (same_new hD) hD upd_same, upd_same, setT_new, fun j hj => absurd hj (Nat.not_lt_zero j)⟩
theorem empty_turn {p : Addr} {H H' : Hp} {g : Addr → Nat} {rD r : Nat} {D : Addr} {k : Nat} (hr : ∀ j, j < 32 → rD ≠ r + j) (hp : H p ≠ none) (hD : H D = none) (hk : k < 32) (h : EmP p H g rD r D k H') (e : Addr) (he : H' e = none) :
    ∃ acc, upd H' e (.lst []) D = some (.lst acc) ∧ acc.length < sizeLine ∧ EmP p H g rD r D (k + 1) (upd (upd H' e (.lst [])) D (.lst (acc ++ [V.ref e]))) := by
  obtain ⟨s1, g', f, E1, hD', gD, hf⟩ := h
  refine ⟨_, same_new he _ _ hD', ?_, ?_, ?_⟩
  · rw [refs_len]
    exact Nat.lt_of_lt_of_le hk (by decide)
  · exact fun b o q => by
      rw [upd_ne (ne_of_none q hD)]
      exact same_new he b o (s1 b o q)
  · have hp' : H' p ≠ none := E1.pp hp
    have neD : D ≠ e := ne_of_none hD' he
    have E2 : Ext p H' g' (upd H' e (.lst [])) (setT g' e (r + k)) := Ext.new E1.fr hp' (same_new he) he upd_same
    refine ⟨setT g' e (r + k), fun j => if j = k then e else f j, ?_, by rw [upd_same, refs_snoc], by rw [setT_ne neD]; exact gD, fun j hj => ?_⟩
    · have E3 := E1.trans E2
      refine ⟨fun b o n q => ⟨?_, (E3.st b o n q).2⟩, fun b q => E3.fr b (upd_none q), E3.ow, fun _ q => E3.pp hp (upd_none q)⟩
      rw [upd_ne (ne_of_none q hD)]
      exact (E3.st b o n q).1
    · show upd _ D _ (if j = k then e else f j) = _ ∧ setT _ _ _ (if j = k then e else f j) = _
      by_cases c : j = k
      · subst c
        rw [if_pos rfl, upd_ne neD.symm, upd_same]
        exact ⟨rfl, setT_new⟩
      · have hj' : j < k := by omega
        have ne : f j ≠ e := ne_of_none (hf j hj').1 he
        have nD : f j ≠ D := ne_tag (hf j hj').2 gD (fun z => hr j (by omega) z.symm)
        rw [if_neg c, upd_ne nD, upd_ne ne, setT_ne ne]
        exact hf j hj'

def spAllowed0 : Sp := fun vs H Q _ => ∃ (p : Addr) (g : Addr → Nat), vs = [] ∧ (∀ b, H b = none → g b = 0) ∧ H p ≠ none ∧
  ∀ H' g' (al : Addr) (f : Nat → Addr), Ext p H g H' g' → H' p = H p → H' al = some (.lst (refs 5 f)) → g' al = 2 → (∀ i, i < 5 → H' (f i) = some (.lst (nums ((begun 0).allowed.getD i []))) ∧ g' (f i) = 10 + i) → Q (.ref al) H'
theorem sc_allowed_at_the_beginning : FnScope ["sub"] [] (defScope (top 38)) := ⟨rfl, rfl, rfl, by decide +kernel, rfl, by decide +kernel, by decide +kernel⟩
theorem ok_allowed_at_the_beginning (T : Txt K mg C) : Kn P w K mg base 1 "allowed_at_the_beginning" [] spAllowed0 := by
  refine T.g_allowed_at_the_beginning.kn sc_allowed_at_the_beginning (fun _ _ _ _ _ _ us hl => match us, hl with | [], _ => rfl) (fun vs H Q E h => ?_) (fun f cdv A outer s H vs Q E hr h => ?_)
  · obtain ⟨p, g, rfl, _⟩ := h
    rfl
  obtain ⟨p, g, rfl, fr, hp, q⟩ := h
  refine ⟨_, (pss_one (ps_ret (pe_lst (pa_cons (pe_lc (own := [("sub", 0)]) rfl sc_allowed_at_the_beginning.nd (pi_range1 (by rfl) T.b_range (pa_cons pe_int pa_nil)) (blkOk_by (by show blkC ["sub"] (defScope (top 38)) _ [("sub", 0)] = true; decide +kernel)) (fun _ _ _ _ _ => pg_name (i := 0) sc_allowed_at_the_beginning.nd rfl (Or.inl rfl)) (fun _ _ _ _ _ => pts_nil) (fun _ _ _ _ _ => (pe_cn T.c_EVERY_COUNT))) (pa_cons (pe_lc (own := [("sub", 0)]) rfl sc_allowed_at_the_beginning.nd (pi_range1 (by rfl) T.b_range (pa_cons pe_int pa_nil)) (blkOk_by (by show blkC ["sub"] (defScope (top 38)) _ [("sub", 0)] = true; decide +kernel)) (fun _ _ _ _ _ => pg_name (i := 0) sc_allowed_at_the_beginning.nd rfl (Or.inl rfl)) (fun _ _ _ _ _ => pts_nil) (fun _ _ _ _ _ => (pe_cn T.c_EVERY_COUNT))) (pa_cons (pe_lc (own := [("sub", 0)]) rfl sc_allowed_at_the_beginning.nd (pi_range1 (by rfl) T.b_range (pa_cons pe_int pa_nil)) (blkOk_by (by show blkC ["sub"] (defScope (top 38)) _ [("sub", 0)] = true; decide +kernel)) (fun _ _ _ _ _ => pg_name (i := 0) sc_allowed_at_the_beginning.nd rfl (Or.inl rfl)) (fun _ _ _ _ _ => pts_nil) (fun _ _ _ _ _ => (pe_cn T.c_EVERY_COUNT))) (pa_cons (pe_lst (pa_cons (pe_cn T.c_MODES_0_TO_8) pa_nil)) (pa_cons (pe_lst (pa_cons (pe_cn T.c_MODES_16_TO_21) pa_nil)) pa_nil)))))))), ?_⟩
  refine ⟨32, rfl, by decide, by decide, fun D0 n0 => lc_range (lo := 0) (n := 32) (EvP H D0) ⟨same_new n0, upd_same⟩ (fun k H' hk h => ⟨rfl, every_turn n0 hk h⟩) fun H0 ⟨s0, h0⟩ => ?_⟩
  refine ⟨32, rfl, by decide, by decide, fun D1 n1 => lc_range (lo := 0) (n := 32) (EvP H0 D1) ⟨same_new n1, upd_same⟩ (fun k H' hk h => ⟨rfl, every_turn n1 hk h⟩) fun H1 ⟨s1, h1⟩ => ?_⟩
  refine ⟨32, rfl, by decide, by decide, fun D2 n2 => lc_range (lo := 0) (n := 32) (EvP H1 D2) ⟨same_new n2, upd_same⟩ (fun k H' hk h => ⟨rfl, every_turn n2 hk h⟩) fun H2 ⟨s2, h2⟩ => ?_⟩
  refine ⟨(by show 1 ≤ sizeLine; decide), fun D3 n3 => ?_⟩
  refine ⟨(by show 1 ≤ sizeLine; decide), fun D4 n4 => ?_⟩
  refine ⟨(by show 5 ≤ sizeLine; decide), fun D5 n5 => ?_⟩
  have s3 := same_new (o := .lst [V.int 511]) n3
  have s4 := same_new (o := .lst [V.int 4128768]) n4
  have s5 := same_new (o := .lst [V.ref D0, V.ref D1, V.ref D2, V.ref D3, V.ref D4]) n5
  have E0 : Ext p H g H0 (setT g D0 10) := Ext.new fr hp s0 n0 h0
  have E1 := Ext.new (p := p) (r := 11) E0.fr (E0.pp hp) s1 n1 h1
  have E2 := Ext.new (p := p) (r := 12) E1.fr (E1.pp (E0.pp hp)) s2 n2 h2
  have E3 := Ext.new (p := p) (r := 13) E2.fr (E2.pp (E1.pp (E0.pp hp))) s3 n3 upd_same
  have E4 := Ext.new (p := p) (r := 14) E3.fr (E3.pp (E2.pp (E1.pp (E0.pp hp)))) s4 n4 upd_same
  have E5 := Ext.new (p := p) (r := 2) E4.fr (E4.pp (E3.pp (E2.pp (E1.pp (E0.pp hp))))) s5 n5 upd_same
  have np : ∀ {l : Addr} {H' : Hp} {o : HO}, Same H H' → H' l = none → l ≠ p := fun {l H' o} sm hl e => by
    cases z : H p with
    | none => exact hp z
    | some o => rw [e, sm p o z] at hl; cases hl
  have p0 : D0 ≠ p := fun e => hp (by rw [← e]; exact n0)
  have p1 : D1 ≠ p := np (o := .lst []) s0 n1
  have p2 : D2 ≠ p := np (o := .lst []) (s0.trans s1) n2
  have p3 : D3 ≠ p := np (o := .lst []) ((s0.trans s1).trans s2) n3
  have p4 : D4 ≠ p := np (o := .lst []) (((s0.trans s1).trans s2).trans s3) n4
  have t4 : ∀ {b : Addr} {o : HO}, b ≠ p → _ → _ := fun {b o} n e => E5.st b o n e
  have t3 : ∀ {b : Addr} {o : HO}, b ≠ p → _ → _ := fun {b o} n e => (E4.trans E5).st b o n e
  have t2 : ∀ {b : Addr} {o : HO}, b ≠ p → _ → _ := fun {b o} n e => (E3.trans (E4.trans E5)).st b o n e
  have t1 : ∀ {b : Addr} {o : HO}, b ≠ p → _ → _ := fun {b o} n e => (E2.trans (E3.trans (E4.trans E5))).st b o n e
  have t0 : ∀ {b : Addr} {o : HO}, b ≠ p → _ → _ := fun {b o} n e => (E1.trans (E2.trans (E3.trans (E4.trans E5)))).st b o n e
  refine q _ _ D5 (fun i => if i = 0 then D0 else if i = 1 then D1 else if i = 2 then D2 else if i = 3 then D3 else D4) (E0.trans (E1.trans (E2.trans (E3.trans (E4.trans E5))))) ?_ upd_same setT_new fun i hi => ?_
  · cases z : H p with
    | none => exact absurd z hp
    | some o => exact s5 _ _ (s4 _ _ (s3 _ _ (s2 _ _ (s1 _ _ (s0 _ _ z)))))
  · have hi5 : i = 0 ∨ i = 1 ∨ i = 2 ∨ i = 3 ∨ i = 4 := by omega
    rcases hi5 with rfl | rfl | rfl | rfl | rfl
    · exact ⟨(t0 p0 h0).1, (t0 p0 h0).2.trans setT_new⟩
    · exact ⟨(t1 p1 h1).1, (t1 p1 h1).2.trans setT_new⟩
    · exact ⟨(t2 p2 h2).1, (t2 p2 h2).2.trans setT_new⟩
    · exact ⟨(t3 p3 (upd_same (o := .lst [V.int 511]))).1, (t3 p3 (upd_same (o := .lst [V.int 511]))).2.trans setT_new⟩
    · exact ⟨(t4 p4 (upd_same (o := .lst [V.int 4128768]))).1, (t4 p4 (upd_same (o := .lst [V.int 4128768]))).2.trans setT_new⟩

theorem Ext.put2 {p l : Addr} {H H' : Hp} {g : Addr → Nat} {o u : HO} {r : Nat} (f : ∀ b, H b = none → g b = 0) (hp : H p ≠ none) (hl : H l = none) (hl' : H' l = some u) (hp' : H' p = some o) (h : ∀ b, b ≠ p → b ≠ l → H' b = H b) : Ext p H g H' (setT g l r) := by
  have np : p ≠ l := fun e => hp (by rw [e]; exact hl)
  refine ⟨fun b v n e => ⟨by rw [h b n (ne_of_none e hl)]; exact e, setT_ne (ne_of_none e hl)⟩, fun b e => ?_, setT_ne np, fun _ e => by rw [hp'] at e; cases e⟩
  have n1 : b ≠ l := fun q => by rw [q, hl'] at e; cases e
  have n2 : b ≠ p := fun q => by rw [q, hp'] at e; cases e
  rw [setT_ne n1]
  exact f b (by rw [← h b n2 n1]; exact e)
theorem some_ne {H : Hp} {p : Addr} {o : HO} (h : H p = some o) : H p ≠ none := fun e => by rw [h] at e; cases e
theorem rep_nil (i : Nat) : (List.replicate 32 ([] : List Nat)).getD i [] = [] := by
  rw [List.getD_eq_getElem?_getD, List.getElem?_replicate]
  split <;> rfl
def spBegin0 (C : Addr) : Sp := fun vs H Q _ => ∃ (p dx : Addr) (vl : List V) (g : Addr → Nat) (a : Nat), vs = [.ref p, .int a] ∧ H p = some (.ins C dx (names.zip vl)) ∧ vl.length ≤ 20 ∧ g p = 1 ∧ (∀ b, H b = none → g b = 0) ∧ Post C H g p (begun a) Q
theorem sc_begin_anew : FnScope ["self", "address", "sub"] ["self", "address"] (defScope (inClass (top 39) 1)) := ⟨rfl, rfl, rfl, by decide +kernel, rfl, by decide +kernel, by decide +kernel⟩
theorem ok_begin_anew (T : Txt K mg C) : KnM P w K mg base C 2 "begin_anew" ["self", "address"] (spBegin0 C) := by
  obtain ⟨fa, fd, me, F⟩ := T.m_begin_anew
  refine ⟨fa, fd, me, F.binds (fun _ _ _ _ _ _ us hl => match us, hl with | [_, _], _ => rfl), F.ok sc_begin_anew (fun vs H Q E h => ?_) (fun cdv A outer s H vs Q E hr h => ?_)⟩
  · obtain ⟨p, dx, vl, g, a, rfl, _⟩ := h
    rfl
  obtain ⟨p, dx, vl, g, a, rfl, hp, hv, gp, fr, q⟩ := h
  refine ⟨_, (pss_cons (ps_tz T 0 (pv 0) (pv 1))
      (pss_cons (ps_tz T 1 (pv 0) pe_int)
      (pss_cons (ps_tz T 2 (pv 0) (pe_kn0 (ok_allowed_at_the_beginning T) hr))
      (pss_cons (ps_tz T 3 (pv 0) (pe_lc (own := [("sub", 2)]) rfl sc_begin_anew.nd (pi_range1 (by rfl) T.b_range (pa_cons pe_int pa_nil)) (blkOk_by (by show blkC ["self", "address", "sub"] (defScope (inClass (top 39) 1)) _ [("sub", 2)] = true; decide +kernel)) (fun _ _ _ _ _ => pg_name (i := 2) sc_begin_anew.nd rfl (Or.inl rfl)) (fun _ _ _ _ _ => pts_nil) (fun _ _ _ _ _ => (pe_lst pa_nil))))
      (pss_cons (ps_tz T 4 (pv 0) (pe_lc (own := [("sub", 2)]) rfl sc_begin_anew.nd (pi_range1 (by rfl) T.b_range (pa_cons pe_int pa_nil)) (blkOk_by (by show blkC ["self", "address", "sub"] (defScope (inClass (top 39) 1)) _ [("sub", 2)] = true; decide +kernel)) (fun _ _ _ _ _ => pg_name (i := 2) sc_begin_anew.nd rfl (Or.inl rfl)) (fun _ _ _ _ _ => pts_nil) (fun _ _ _ _ _ => (pe_lst pa_nil))))
      (pss_cons (ps_tz T 5 (pv 0) pe_int)
      (pss_cons (ps_tz T 6 (pv 0) pe_int)
      (pss_cons (ps_tz T 7 (pv 0) pe_int)
      (pss_cons (ps_tz T 8 (pv 0) pe_int)
      (pss_cons (ps_tz T 9 (pv 0) pe_int)
      (pss_cons (ps_tz T 10 (pv 0) pe_int)
      (pss_cons (ps_tz T 11 (pv 0) pe_int)
      (pss_cons (ps_tz T 12 (pv 0) pe_int)
      (pss_cons (ps_tz T 13 (pv 0) pe_int)
      (pss_cons (ps_tz T 14 (pv 0) (pe_lst pa_nil))
      (pss_one (ps_expr (pe_mt0 T.cl (ok_drop0 T) hr (pv 0))))))))))))))))))), ?_⟩
  refine ⟨_, rfl, _, rfl, p, dx, [], vl, rfl, hp, rfl, fun H0 h0 f0 => ?_⟩
  have E0 : Ext p H g H0 g := Ext.put fr (some_ne hp) f0 h0
  refine ⟨_, rfl, p, dx, _, vl, rfl, h0, rfl, fun H1 h1 f1 => ?_⟩
  have E1 : Ext p H0 g H1 g := Ext.put E0.fr (some_ne h0) f1 h1
  refine ⟨p, g, rfl, E1.fr, some_ne h1, fun H2 g2 al fA E2 e2 hal gal hfA => ?_⟩
  refine ⟨_, rfl, p, dx, _, vl, rfl, e2.trans h1, rfl, fun H3 h3 f3 => ?_⟩
  have E3 : Ext p H2 g2 H3 g2 := Ext.put E2.fr (some_ne (e2.trans h1)) f3 h3
  refine ⟨32, rfl, by decide, by decide, fun gi nD => lc_range (lo := 0) (n := 32) (EmP p H3 g2 3 100 gi) (empty_start E3.fr (some_ne h3) nD) (fun k H' hk h => ⟨rfl, Nat.zero_le _, fun e he => empty_turn (fun j _ => by omega) (some_ne h3) nD hk h e he⟩) fun H4 ⟨s4, g4, fG, E4, hgi, ggi, hfG⟩ => ?_⟩
  refine ⟨_, rfl, p, dx, _, vl, rfl, s4 _ _ h3, rfl, fun H5 h5 f5 => ?_⟩
  have E5 : Ext p H4 g4 H5 g4 := Ext.put E4.fr (some_ne (s4 _ _ h3)) f5 h5
  refine ⟨32, rfl, by decide, by decide, fun go nD => lc_range (lo := 0) (n := 32) (EmP p H5 g4 4 200 go) (empty_start E5.fr (some_ne h5) nD) (fun k H' hk h => ⟨rfl, Nat.zero_le _, fun e he => empty_turn (fun j _ => by omega) (some_ne h5) nD hk h e he⟩) fun H6 ⟨s6, g6, fO, E6, hgo, ggo, hfO⟩ => ?_⟩
  refine ⟨_, rfl, p, dx, _, vl, rfl, s6 _ _ h5, rfl, fun H7 h7 f7 => ?_⟩
  have E7 : Ext p H6 g6 H7 g6 := Ext.put E6.fr (some_ne (s6 _ _ h5)) f7 h7
  refine ⟨_, rfl, p, dx, _, vl, rfl, h7, rfl, fun H8 h8 f8 => ?_⟩
  have E8 : Ext p H7 g6 H8 g6 := Ext.put E7.fr (some_ne h7) f8 h8
  refine ⟨_, rfl, p, dx, _, vl, rfl, h8, rfl, fun H9 h9 f9 => ?_⟩
  have E9 : Ext p H8 g6 H9 g6 := Ext.put E8.fr (some_ne h8) f9 h9
  refine ⟨_, rfl, p, dx, _, vl, rfl, h9, rfl, fun H10 h10 f10 => ?_⟩
  have E10 : Ext p H9 g6 H10 g6 := Ext.put E9.fr (some_ne h9) f10 h10
  refine ⟨_, rfl, p, dx, _, vl, rfl, h10, rfl, fun H11 h11 f11 => ?_⟩
  have E11 : Ext p H10 g6 H11 g6 := Ext.put E10.fr (some_ne h10) f11 h11
  refine ⟨_, rfl, p, dx, _, vl, rfl, h11, rfl, fun H12 h12 f12 => ?_⟩
  have E12 : Ext p H11 g6 H12 g6 := Ext.put E11.fr (some_ne h11) f12 h12
  refine ⟨_, rfl, p, dx, _, vl, rfl, h12, rfl, fun H13 h13 f13 => ?_⟩
  have E13 : Ext p H12 g6 H13 g6 := Ext.put E12.fr (some_ne h12) f13 h13
  refine ⟨_, rfl, p, dx, _, vl, rfl, h13, rfl, fun H14 h14 f14 => ?_⟩
  have E14 : Ext p H13 g6 H14 g6 := Ext.put E13.fr (some_ne h13) f14 h14
  refine ⟨_, rfl, p, dx, _, vl, rfl, h14, rfl, fun H15 h15 f15 => ?_⟩
  have E15 : Ext p H14 g6 H15 g6 := Ext.put E14.fr (some_ne h14) f15 h15
  refine ⟨_, rfl, p, dx, _, vl, rfl, h15, rfl, fun H16 h16 f16 => ?_⟩
  have E16 : Ext p H15 g6 H16 g6 := Ext.put E15.fr (some_ne h15) f16 h16
  refine ⟨Nat.zero_le _, fun se nse => ?_⟩
  have s17 := same_new (o := .lst []) nse
  have E17 : Ext p H16 g6 (upd H16 se (.lst [])) (setT g6 se 5) := Ext.new E16.fr (some_ne h16) s17 nse upd_same
  refine ⟨_, rfl, p, dx, _, vl, rfl, s17 _ _ h16, rfl, fun H18 h18 f18 => ?_⟩
  have E18 : Ext p (upd H16 se (.lst [])) (setT g6 se 5) H18 (setT g6 se 5) := Ext.put E17.fr (some_ne (s17 _ _ h16)) f18 h18
  refine ⟨_, rfl, p, dx, _, rfl, h18, zip_lookup_none (by decide +kernel), p, dx, _, vl, rfl, h18, rfl, hv, fun H19 ta nta hta h19 f19 => ?_⟩
  have E19 : Ext p H18 (setT g6 se 5) H19 (setT (setT g6 se 5) ta 6) := Ext.put2 E18.fr (some_ne h18) nta hta h19 f19
  have R18 := E18.trans E19
  have R8 := E8.trans (E9.trans (E10.trans (E11.trans (E12.trans (E13.trans (E14.trans (E15.trans (E16.trans (E17.trans R18)))))))))
  have R6 := E7.trans R8
  have R4 := E5.trans (E6.trans R6)
  have R2 := E3.trans (E4.trans R4)
  have R0 := E0.trans (E1.trans (E2.trans R2))
  have g2p : g2 p = 1 := E2.ow.trans gp
  have g4p : g4 p = 1 := E4.ow.trans g2p
  have g6p : g6 p = 1 := E6.ow.trans g4p
  have pse : se ≠ p := fun e => by rw [e, h16] at nse; cases nse
  have pta : ta ≠ p := fun e => by rw [e, h18] at nta; cases nta
  have tal := R2.st al _ (ne_tag gal g2p (by decide)) hal
  have tgi := R4.st gi _ (ne_tag ggi g4p (by decide)) hgi
  have tgo := R6.st go _ (ne_tag ggo g6p (by decide)) hgo
  have tse := R18.st se _ pse upd_same
  refine q H19 ⟨dx, al, gi, go, se, ta, fA, fG, fO⟩ _ ⟨?_, tal.1, tgi.1, tgo.1, tse.1, hta,
    fun i h => (R2.st (fA i) _ (ne_tag (hfA i h).2 g2p (by omega)) (hfA i h).1).1, fun i h => ?_, fun i h => ?_, R0.ow.trans gp, tal.2.trans gal, tgi.2.trans ggi, tgo.2.trans ggo, tse.2.trans setT_new, setT_new,
    fun i h => (R2.st (fA i) _ (ne_tag (hfA i h).2 g2p (by omega)) (hfA i h).1).2.trans (hfA i h).2, fun i h => (R4.st (fG i) _ (ne_tag (hfG i h).2 g4p (by omega)) (hfG i h).1).2.trans (hfG i h).2, fun i h => (R6.st (fO i) _ (ne_tag (hfO i h).2 g6p (by omega)) (hfO i h).1).2.trans (hfO i h).2, R0.fr⟩ (R0.frm (by rw [gp]; decide))
  · rw [h19]
    rfl
  · have z := (R4.st (fG i) _ (ne_tag (hfG i h).2 g4p (by omega)) (hfG i h).1).1
    show H19 (fG i) = some (.lst (nums ((List.replicate 32 ([] : List Nat)).getD i [])))
    rw [rep_nil]
    exact z
  · have z := (R6.st (fO i) _ (ne_tag (hfO i h).2 g6p (by omega)) (hfO i h).1).1
    show H19 (fO i) = some (.lst (nums ((List.replicate 32 ([] : List Nat)).getD i [])))
    rw [rep_nil]
    exact z
def spInit (C : Addr) : Sp := fun vs H Q _ => ∃ (p dx : Addr), vs = [.ref p] ∧ H p = some (.ins C dx []) ∧ ∀ H' A' g', TermAt C H' p (begun 0) A' g' → (∀ b o, b ≠ p → H b = some o → H' b = some o ∧ g' b = 0) → Q .non H'
theorem sc___init__ : FnScope ["self"] ["self"] (defScope (inClass (top 39) 0)) := ⟨rfl, rfl, rfl, by decide +kernel, rfl, by decide +kernel, by decide +kernel⟩
theorem ok_init (T : Txt K mg C) : ∃ (f : Addr) (fd : FuncData), Mk K C f ∧ Binds K fd ["self"] [] ∧ FnOk P w K mg base CX0 3 f fd ["self"] (spInit C) := by
  obtain ⟨fa, fd, me, F⟩ := T.m_init
  refine ⟨fa, fd, me, F.binds (fun _ _ _ _ _ _ us hl => match us, hl with | [_], _ => rfl), F.ok sc___init__ (fun vs H Q E h => ?_) (fun cdv A outer s H vs Q E hr h => ?_)⟩
  · obtain ⟨p, dx, rfl, _⟩ := h
    rfl
  obtain ⟨p, dx, rfl, hp, q⟩ := h
  refine ⟨_, (pss_one (ps_expr (pe_mt T.cl (ok_begin_anew T) hr (pv 0) (pa_cons pe_int pa_nil)))), ?_⟩
  refine ⟨_, rfl, p, dx, _, rfl, hp, rfl, p, dx, [], setT (fun _ => 0) p 1, 0, rfl, hp, Nat.zero_le _, setT_new, fun b e => ?_, fun H1 A1 g1 T1 F1 => ?_⟩
  · exact setT_ne fun z => by rw [z, hp] at e; cases e
  · exact q H1 A1 g1 T1 fun b o n e => F1 b o e (setT_ne n)
end
section
variable {X : Cx} {C : Addr} {k : Nat} {p pos : Pos}
/-- Terminal() -/
theorem pe_new (T : Txt X.K X.mg C) (hr : Room k X.A) (hj : 4 ≤ k := by decide) (hg : Gl X "Terminal" := by rfl) : PE X (.Call (.Name "Terminal" p) [] [] pos) (tMake C (spInit C) [] E0 tNil) := by
  obtain ⟨f, fd, M, b, F⟩ := ok_init (P := X.prog) (w := X.w) (base := X.base) T
  exact pe_make0 M F (hr.mono hj) hg T.mgC b .nil pass0
end
end Bt
end
section
set_option Elab.async false
set_option linter.all false
set_option maxRecDepth 100000
set_option maxHeartbeats 4000000
/-! The defs of modes.py. -/
namespace Bt
open PySem PySem.Spec PyProof.Rows L2
open Sa67 (toOf sends subOf countOf many mode onWire gone)
section
variable {P : Program} {w : World} {K : PySem.W.Frag} {mg : Str → Option Value} {base : Heap} {C : Addr}
theorem nums_at {l : List Nat} {i : Nat} (h : i < l.length) : (nums l)[i]? = some (V.int ((l.getD i 0 : Nat) : Int)) := by
  refine nums_get ?_
  rw [List.getD_eq_getElem?_getD, List.getElem?_eq_getElem h]
  rfl
theorem Post.from {H H1 : Hp} {g g1 : Addr → Nat} {p : Addr} {M : Mir} {Q : VK} (q : Post C H g p M Q) (F : Frm H g H1 g1) : Post C H1 g1 p M Q := fun H2 A2 g2 T2 F2 => q H2 A2 g2 T2 (F.trans F2)
theorem Post.is {H : Hp} {g : Addr → Nat} {p : Addr} {M M' : Mir} {Q : VK} (q : Post C H g p M Q) (e : M = M') : Post C H g p M' Q := e ▸ q
/-- a terminal and a number in, the terminal changed -/
def spMC (C : Addr) (f : Mir → Nat → Mir) : Sp := fun vs H Q _ => ∃ p M A g, ∃ c : Nat, vs = [.ref p, .int c] ∧ TermAt C H p M A g ∧ Wf M ∧ Post C H g p (f M c) Q
theorem spMC_len {f : Mir → Nat → Mir} {x y : Str} : ∀ vs H Q E, spMC C f vs H Q E → vs.length = [x, y].length := fun vs H Q E h => by
  obtain ⟨p, M, A, g, c, rfl, _⟩ := h
  rfl
/-- .. a value out, the heap may have grown -/
def spMV (C : Addr) (f : Mir → Nat → V) : Sp := fun vs H Q _ => ∃ p M A g, ∃ c : Nat, vs = [.ref p, .int c] ∧ TermAt C H p M A g ∧ Wf M ∧ ∀ H', Same H H' → Q (f M c) H'
theorem spMV_len {f : Mir → Nat → V} {x y : Str} : ∀ vs H Q E, spMV C f vs H Q E → vs.length = [x, y].length := fun vs H Q E h => by
  obtain ⟨p, M, A, g, c, rfl, _⟩ := h
  rfl
theorem same_refl {H : Hp} : Same H H := fun _ _ h => h
/-- [] handed to reply -/
theorem reply_none {H H1 : Hp} {g g1 : Addr → Nat} {p : Addr} {M1 : Mir} {A1 : Ad} {c : Nat} {Q : VK} (T1 : TermAt C H1 p M1 A1 g1) (wf : Wf M1) (F : Frm H g H1 g1) (q : Post C H g p (reply M1 c []) Q) :
    0 ≤ sizeLine ∧ ∀ d, H1 d = none → spReply C [.ref p, .int c, .ref d] (upd H1 d (.lst [])) Q E0 :=
  ⟨Nat.zero_le _, fun d hd => ⟨p, M1, A1, g1, d, c, [], rfl, T1.grow (same_new hd), wf, upd_same, T1.fr d hd, (by simp), (by simp), q.from (F.trans (Frm.same g1 (same_new hd)))⟩⟩
/-- [n] handed to reply -/
theorem reply_one {H H1 : Hp} {g g1 : Addr → Nat} {p : Addr} {M1 : Mir} {A1 : Ad} {c n : Nat} {Q : VK} (T1 : TermAt C H1 p M1 A1 g1) (wf : Wf M1) (hn : n < 65536) (F : Frm H g H1 g1) (q : Post C H g p (reply M1 c [n]) Q) :
    1 ≤ sizeLine ∧ ∀ d, H1 d = none → spReply C [.ref p, .int c, .ref d] (upd H1 d (.lst [V.int (n : Int)])) Q E0 :=
  ⟨(by decide), fun d hd => ⟨p, M1, A1, g1, d, c, [n], rfl, T1.grow (same_new hd), wf, upd_same, T1.fr d hd, (by simpa using hn), (by simp), q.from (F.trans (Frm.same g1 (same_new hd)))⟩⟩
/-- [] handed to send -/
theorem send_none {H H1 : Hp} {g g1 : Addr → Nat} {p : Addr} {M1 : Mir} {A1 : Ad} {st : Nat} {Q : VK} (T1 : TermAt C H1 p M1 A1 g1) (hs : st < 65536) (F : Frm H g H1 g1) (q : Post C H g p (send M1 st []) Q) :
    0 ≤ sizeLine ∧ ∀ d, H1 d = none → spSend C [.ref p, .int st, .ref d] (upd H1 d (.lst [])) Q E0 :=
  ⟨Nat.zero_le _, fun d hd => ⟨p, M1, A1, g1, d, st, [], rfl, T1.grow (same_new hd), upd_same, T1.fr d hd, hs, (by simp), (by simp), q.from (F.trans (Frm.same g1 (same_new hd)))⟩⟩

def spModeAllowed (C : Addr) : Sp := fun vs H Q _ => ∃ p M A g, ∃ k : Nat, vs = [.ref p, .int k] ∧ TermAt C H p M A g ∧ Wf M ∧ Q (.bl (modeAllowed M k)) H
theorem sc_is_mode_allowed : FnScope ["terminal", "code", "what"] ["terminal", "code"] (defScope (top 56)) := ⟨rfl, rfl, rfl, by decide +kernel, rfl, by decide +kernel, by decide +kernel⟩
theorem ok_is_mode_allowed (T : Txt K mg C) : Kn P w K mg base 2 "is_mode_allowed" ["terminal", "code"] (spModeAllowed C) := by
  refine T.g_is_mode_allowed.kn sc_is_mode_allowed (fun _ _ _ _ _ _ us hl => match us, hl with | [_, _], _ => rfl) (fun vs H Q E h => ?_) (fun f cdv A outer s H vs Q E hr h => ?_)
  · obtain ⟨p, M, A, g, k, rfl, _⟩ := h
    rfl
  obtain ⟨p, M, A, g, k, rfl, hT, wf, q⟩ := h
  refine ⟨_, (pss_cons (ps_set (i := 2) sc_is_mode_allowed.nd rfl (Or.inl rfl) (pe_ifExp (pt_cmpR op_lt (pv 1) (pe_cn T.c_FIRST_HIGH_MODE) (nomark _)) (pe_cn T.c_LOW_MODES) (pe_cn T.c_HIGH_MODES)))
      (pss_one (ps_ret (pe_cmpR op_eq (pe_kn (ok_bit_of T) hr (pa_cons (pe_ix ix_list (pe_ix ix_list (pe_tf T 2 (pv 0)) (pv 2) (fun _ _ => rfl)) pe_int (fun _ _ => rfl)) (pa_cons (pv 1) pa_nil))) pe_int (nomark _))))), ?_⟩
  refine ⟨_, rfl, _, _, rfl, rfl, _, rfl, ?_⟩
  have e : ∀ n : Nat, decide (V.int (bitOf n k : Int) = V.int ((1 : Nat) : Int)) = n.testBit k := fun n => (dec_nat _ _).trans (tb_eq _ _).symm
  unfold modeAllowed at q
  refine ite2 (fun h => ?_) fun h => ?_
  · have h : (k : Int) < 16 := of_decide_eq_true h
    rw [if_pos (by omega), ← e] at q
    have l1 : 0 < (M.allowed.getD 3 []).length := by rw [wf.al3 3 (by omega) (by omega)]; decide
    exact ⟨_, rfl, p, M, A, g, _, rfl, hT, rfl, _, rfl, A.al, _, _, _, rfl, rfl, SqL.of hT.al, atI_nat (j := 3) (refs_get _ (by decide)), A.alI 3, _, _, _, rfl, rfl, SqL.of (hT.alI 3 (by decide)), atI_nat (j := 0) (nums_at l1), _, rfl, _, k, rfl, trivial, rfl, q⟩
  · have h : ¬ (k : Int) < 16 := fun z => h (decide_eq_true z)
    rw [if_neg (by omega), ← e] at q
    have l1 : 0 < (M.allowed.getD 4 []).length := by rw [wf.al3 4 (by omega) (by omega)]; decide
    exact ⟨_, rfl, p, M, A, g, _, rfl, hT, rfl, _, rfl, A.al, _, _, _, rfl, rfl, SqL.of hT.al, atI_nat (j := 4) (refs_get _ (by decide)), A.alI 4, _, _, _, rfl, rfl, SqL.of (hT.alI 4 (by decide)), atI_nat (j := 0) (nums_at l1), _, rfl, _, k, rfl, trivial, rfl, q⟩

theorem sc_asks_what_was_before : FnScope ["command"] ["command"] (defScope (top 57)) := ⟨rfl, rfl, rfl, by decide +kernel, rfl, by decide +kernel, by decide +kernel⟩
theorem ok_asks_what_was_before (T : Txt K mg C) : Kn P w K mg base 3 "asks_what_was_before" ["command"] (sp1g any1 fun n => .bl (asksBefore n)) := by
  refine T.g_asks_what_was_before.kn sc_asks_what_was_before (fun _ _ _ _ _ _ us hl => match us, hl with | [_], _ => rfl) sp1g_len (fun f cdv A outer s H vs Q E hr h => ?_)
  obtain ⟨n, rfl, _, q⟩ := h
  refine ⟨_, (pss_one (ps_ret (pe_and (pe_kn (ok_is_mode T) hr (pa_cons (pv 0) pa_nil)) (pe_and (pe_not (pe_kn (ok_is_to_all T) hr (pa_cons (pv 0) pa_nil))) (pe_one (pe_cmpR op_in_seq (pe_kn (ok_count_of T) hr (pa_cons (pv 0) pa_nil)) (pe_tup (pa_cons (pe_cn T.c_REPEAT_STATUS) (pa_cons (pe_cn T.c_REPEAT_COMMAND) pa_nil))) (by with_unfolding_all rfl))))))), ?_⟩
  refine ⟨_, rfl, n, rfl, trivial, fun H1 S1 => ⟨_, rfl, ?_⟩⟩
  unfold asksBefore at q
  dsimp only at q
  refine ite2 (fun h => ?_) fun h => ?_
  · refine ⟨_, rfl, n, rfl, trivial, _, rfl, _, rfl, ?_⟩
    refine ite2 (fun h2 => ?_) fun h2 => ?_
    · refine ⟨_, rfl, n, rfl, trivial, (by show 2 ≤ sizeLine; decide), fun p hp => ⟨p, _, rfl, .inr (SqT.of upd_same), rfl, rfl, ?_⟩⟩
      have e : inV (V.int (countOf n : Int)) [V.int ((2 : Nat) : Int), V.int ((18 : Nat) : Int)] = (countOf n == 2 || countOf n == 18) := in_two _ _ _
      rw [h, h2, Bool.true_and, Bool.true_and, ← e] at q
      exact q _ (S1.trans (same_new hp))
    · rw [h, Bool.eq_false_iff.mpr h2, Bool.true_and, Bool.false_and] at q
      exact q _ S1
  · rw [Bool.eq_false_iff.mpr h, Bool.false_and] at q
    exact q _ S1

theorem sc_sends_a_word : FnScope ["command"] ["command"] (defScope (top 58)) := ⟨rfl, rfl, rfl, by decide +kernel, rfl, by decide +kernel, by decide +kernel⟩
theorem ok_sends_a_word (T : Txt K mg C) : Kn P w K mg base 3 "sends_a_word" ["command"] (sp1g any1 fun n => .bl (sendsWord n)) := by
  refine T.g_sends_a_word.kn sc_sends_a_word (fun _ _ _ _ _ _ us hl => match us, hl with | [_], _ => rfl) sp1g_len (fun f cdv A outer s H vs Q E hr h => ?_)
  obtain ⟨n, rfl, _, q⟩ := h
  refine ⟨_, (pss_one (ps_ret (pe_and (pe_kn (ok_is_to_transmit T) hr (pa_cons (pv 0) pa_nil)) (pe_one (pe_cmpR op_in_seq (pe_kn (ok_count_of T) hr (pa_cons (pv 0) pa_nil)) (pe_tup (pa_cons (pe_cn T.c_SERVICE_WORD) (pa_cons (pe_cn T.c_REPEAT_COMMAND) (pa_cons (pe_cn T.c_TEST_WORD) pa_nil)))) (by with_unfolding_all rfl)))))), ?_⟩
  refine ⟨_, rfl, n, rfl, trivial, _, rfl, ?_⟩
  unfold sendsWord at q
  dsimp only at q
  refine ite2 (fun h => ?_) fun h => ?_
  · refine ⟨_, rfl, n, rfl, trivial, (by show 3 ≤ sizeLine; decide), fun p hp => ⟨p, _, rfl, .inr (SqT.of upd_same), rfl, rfl, ?_⟩⟩
    have e : inV (V.int (countOf n : Int)) [V.int ((16 : Nat) : Int), V.int ((18 : Nat) : Int), V.int ((19 : Nat) : Int)] = (countOf n == 16 || countOf n == 18 || countOf n == 19) := in_three _ _ _ _
    rw [h, Bool.true_and, ← e] at q
    exact q _ (same_new hp)
  · rw [Bool.eq_false_iff.mpr h, Bool.false_and] at q
    exact q _ same_refl

theorem sc_takes_a_word : FnScope ["command"] ["command"] (defScope (top 59)) := ⟨rfl, rfl, rfl, by decide +kernel, rfl, by decide +kernel, by decide +kernel⟩
theorem ok_takes_a_word (T : Txt K mg C) : Kn P w K mg base 3 "takes_a_word" ["command"] (sp1g any1 fun n => .bl (takesWord n)) := by
  refine T.g_takes_a_word.kn sc_takes_a_word (fun _ _ _ _ _ _ us hl => match us, hl with | [_], _ => rfl) sp1g_len (fun f cdv A outer s H vs Q E hr h => ?_)
  obtain ⟨n, rfl, _, q⟩ := h
  refine ⟨_, (pss_one (ps_ret (pe_and (pe_not (pe_kn (ok_is_to_transmit T) hr (pa_cons (pv 0) pa_nil))) (pe_one (pe_cmpR op_in_seq (pe_kn (ok_count_of T) hr (pa_cons (pv 0) pa_nil)) (pe_tup (pa_cons (pe_cn T.c_SET_STEP) (pa_cons (pe_cn T.c_CHOSEN_WIRE_OFF) (pa_cons (pe_cn T.c_CHOSEN_WIRE_ON) pa_nil)))) (by with_unfolding_all rfl)))))), ?_⟩
  refine ⟨_, rfl, n, rfl, trivial, _, rfl, _, rfl, ?_⟩
  unfold takesWord at q
  dsimp only at q
  refine ite2 (fun h => ?_) fun h => ?_
  · refine ⟨_, rfl, n, rfl, trivial, (by show 3 ≤ sizeLine; decide), fun p hp => ⟨p, _, rfl, .inr (SqT.of upd_same), rfl, rfl, ?_⟩⟩
    have e : inV (V.int (countOf n : Int)) [V.int ((17 : Nat) : Int), V.int ((20 : Nat) : Int), V.int ((21 : Nat) : Int)] = (countOf n == 17 || countOf n == 20 || countOf n == 21) := in_three _ _ _ _
    rw [h, Bool.true_and, ← e] at q
    exact q _ (same_new hp)
  · rw [Bool.eq_false_iff.mpr h, Bool.false_and] at q
    exact q _ same_refl

theorem sc_is_low_mode_in_order : FnScope ["terminal", "command", "code"] ["terminal", "command"] (defScope (top 61)) := ⟨rfl, rfl, rfl, by decide +kernel, rfl, by decide +kernel, by decide +kernel⟩
theorem ok_is_low_mode_in_order (T : Txt K mg C) : Kn P w K mg base 3 "is_low_mode_in_order" ["terminal", "command"] (spMV C fun M c => .bl (lowInOrder M c)) := by
  refine T.g_is_low_mode_in_order.kn sc_is_low_mode_in_order (fun _ _ _ _ _ _ us hl => match us, hl with | [_, _], _ => rfl) spMV_len (fun f cdv A outer s H vs Q E hr h => ?_)
  obtain ⟨p, M, A, g, c, rfl, hT, wf, q⟩ := h
  refine ⟨_, (pss_cons (ps_set (i := 2) sc_is_low_mode_in_order.nd rfl (Or.inl rfl) (pe_kn (ok_count_of T) hr (pa_cons (pv 1) pa_nil)))
      (pss_cons (ps_if (PW.pt (pw_and (pt_val (pe_kn (ok_is_to_all T) hr (pa_cons (pv 1) pa_nil))) (pw_and1 (pt_cmpR op_in_seq (pv 2) (pe_tup (pa_cons (pe_cn T.c_TAKE_CONTROL) (pa_cons (pe_cn T.c_REPEAT_STATUS) pa_nil))) (by with_unfolding_all rfl))))) (pss_one (ps_ret pe_bl)) pss_nil)
      (pss_one (ps_ret (pe_and (pe_kn (ok_is_to_transmit T) hr (pa_cons (pv 1) pa_nil)) (pe_one (pe_kn (ok_is_mode_allowed T) hr (pa_cons (pv 0) (pa_cons (pv 2) pa_nil))))))))), ?_⟩
  refine ⟨_, rfl, c, rfl, trivial, _, rfl, c, rfl, trivial, _, rfl, ?_⟩
  unfold lowInOrder at q
  dsimp only at q
  have tail : ∀ H1, Same H H1 → (Sa67.toAll c && (countOf c == 0 || countOf c == 2)) = false → (sends c = true → spModeAllowed C [.ref p, .int (countOf c)] H1 Q E) ∧ (¬ sends c = true → Q (.bl false) H1) := by
    intro H1 S1 z
    rw [z, if_neg Bool.false_ne_true] at q
    refine ⟨fun h => ?_, fun h => ?_⟩
    · rw [h, Bool.true_and] at q
      exact ⟨p, M, A, g, _, rfl, hT.grow S1, wf, q _ S1⟩
    · rw [Bool.eq_false_iff.mpr h, Bool.false_and] at q
      exact q _ S1
  refine ite2 (fun h => ?_) fun h => ?_
  · refine ⟨_, rfl, (by show 2 ≤ sizeLine; decide), fun d hd => ⟨d, _, rfl, .inr (SqT.of upd_same), rfl, rfl, _, rfl, ?_⟩⟩
    have e : inV (V.int (countOf c : Int)) [V.int ((0 : Nat) : Int), V.int ((2 : Nat) : Int)] = (countOf c == 0 || countOf c == 2) := in_two _ _ _
    show if inV (V.int (countOf c : Int)) [V.int ((0 : Nat) : Int), V.int ((2 : Nat) : Int)] = true then _ else _
    rw [e]
    refine ite2 (fun h2 => ?_) fun h2 => ?_
    · rw [h, h2] at q
      exact q _ (same_new hd)
    · have z := tail _ (same_new (o := .tup [V.int 0, V.int 2]) hd) (by rw [h, Bool.eq_false_iff.mpr h2]; rfl)
      exact ⟨_, rfl, c, rfl, trivial, _, rfl, ite2 (fun y => ⟨_, rfl, _, rfl, z.1 y⟩) fun y => z.2 y⟩
  · have z := tail _ same_refl (by rw [Bool.eq_false_iff.mpr h]; rfl)
    exact iteF ⟨_, rfl, c, rfl, trivial, _, rfl, ite2 (fun y => ⟨_, rfl, _, rfl, z.1 y⟩) fun y => z.2 y⟩

theorem ite_upd {b : Bool} {R : Hp → Prop} {X : Prop} {G : Mir → Hp → Prop} {M1 M2 : Mir} {H1 : Hp} (hx : (∀ H', G M1 H' → R H') → X) (hn : G M2 H1) (rest : ∀ H', G (if b = true then M1 else M2) H' → R H') : if b = true then X else R H1 := by
  cases b with
  | true => exact iteT (hx fun H' h => rest H' h)
  | false => exact iteF (rest H1 hn)
def low1 (M : Mir) (k : Nat) : Mir := if k = 1 then { M with step := 0 } else M
def low2 (M : Mir) (k : Nat) : Mir := if k = 4 then { M with off := 1 } else M
def low3 (M : Mir) (k : Nat) : Mir := if k = 5 ∨ k = 8 then { M with off := 0 } else M
def low4 (M : Mir) (k : Nat) : Mir := if k = 6 then { M with hushed := 1 } else M
def low5 (M : Mir) (k : Nat) : Mir := if k = 7 ∨ k = 8 then { M with hushed := 0 } else M
theorem low_all (M : Mir) (k : Nat) : changeLow M k = low5 (low4 (low3 (low2 (low1 M k) k) k) k) k := rfl
theorem low_one {k n : Nat} {X Y : Mir} : (if decide (V.int (k : Int) = V.int (n : Int)) = true then X else Y) = if k = n then X else Y := by
  rw [dec_nat]
  by_cases h : k = n
  · rw [if_pos h, if_pos (decide_eq_true h)]
  · rw [if_neg h, if_neg (fun z => h (of_decide_eq_true z))]
theorem low_two {k a b : Nat} {X Y : Mir} : (if inV (V.int (k : Int)) [V.int (a : Int), V.int (b : Int)] = true then X else Y) = if k = a ∨ k = b then X else Y := by
  rw [in_two]
  by_cases h : k = a ∨ k = b
  · rw [if_pos h, if_pos (by simpa using h)]
  · rw [if_neg h, if_neg (fun z => h (by simpa using z))]
def spChange (C : Addr) : Sp := fun vs H Q _ => ∃ p M A g, ∃ k : Nat, vs = [.ref p, .int k] ∧ TermAt C H p M A g ∧ ∀ H', TermAt C H' p (changeLow M k) A g → Frm H g H' g → Q .non H'
theorem sc_change_by_low_mode : FnScope ["terminal", "code"] ["terminal", "code"] (defScope (top 63)) := ⟨rfl, rfl, rfl, by decide +kernel, rfl, by decide +kernel, by decide +kernel⟩
theorem ok_change_by_low_mode (T : Txt K mg C) : Kn P w K mg base 1 "change_by_low_mode" ["terminal", "code"] (spChange C) := by
  refine T.g_change_by_low_mode.kn sc_change_by_low_mode (fun _ _ _ _ _ _ us hl => match us, hl with | [_, _], _ => rfl) (fun vs H Q E h => ?_) (fun f cdv A outer s H vs Q E hr h => ?_)
  · obtain ⟨p, M, A, g, k, rfl, _⟩ := h
    rfl
  obtain ⟨p, M, A, g, k, rfl, hT, q⟩ := h
  refine ⟨_, (pss_cons (ps_if (pt_cmpR op_eq (pv 1) (pe_cn T.c_SYNCHRONIZE) (nomark _)) (pss_one (ps_ts T 9 (pv 0) pe_int)) pss_nil)
      (pss_cons (ps_if (pt_cmpR op_eq (pv 1) (pe_cn T.c_OTHER_WIRE_OFF) (nomark _)) (pss_one (ps_ts T 12 (pv 0) pe_int)) pss_nil)
      (pss_cons (ps_if (pt_cmpR op_in_seq (pv 1) (pe_tup (pa_cons (pe_cn T.c_OTHER_WIRE_ON) (pa_cons (pe_cn T.c_RESET) pa_nil))) (by with_unfolding_all rfl)) (pss_one (ps_ts T 12 (pv 0) pe_int)) pss_nil)
      (pss_cons (ps_if (pt_cmpR op_eq (pv 1) (pe_cn T.c_HUSH_FAULT) (nomark _)) (pss_one (ps_ts T 13 (pv 0) pe_int)) pss_nil)
      (pss_one (ps_if (pt_cmpR op_in_seq (pv 1) (pe_tup (pa_cons (pe_cn T.c_SHOW_FAULT) (pa_cons (pe_cn T.c_RESET) pa_nil))) (by with_unfolding_all rfl)) (pss_one (ps_ts T 13 (pv 0) pe_int)) pss_nil)))))), ?_⟩
  refine ⟨_, rfl, rfl, _, rfl, ite_upd (G := fun M' H' => TermAt C H' p M' A g ∧ Frm H g H' g) (M1 := { M with step := 0 }) (M2 := M) (fun r => ⟨_, rfl, p, M, A, g, { M with step := 0 }, rfl, hT, ⟨fun _ => rfl, rfl, rfl, rfl, rfl, rfl⟩, fun H1 T1 F1 => r H1 ⟨T1, F1⟩⟩) ⟨hT, Frm.refl H g⟩ ?_⟩
  intro H1 hG
  replace hG : (fun M' H' => TermAt C H' p M' A g ∧ Frm H g H' g) (low1 M k) H1 := (congrArg (fun Z => TermAt C H1 p Z A g ∧ Frm H g H1 g) (low_one (k := k) (n := 1))).mp hG
  generalize eM1 : low1 M k = M1 at hG
  obtain ⟨T1, F1⟩ := hG
  refine ⟨_, rfl, rfl, _, rfl, ite_upd (G := fun M' H' => TermAt C H' p M' A g ∧ Frm H g H' g) (M1 := { M1 with off := 1 }) (M2 := M1) (fun r => ⟨_, rfl, p, M1, A, g, { M1 with off := 1 }, rfl, T1, ⟨fun _ => rfl, rfl, rfl, rfl, rfl, rfl⟩, fun H2 T2 F2 => r H2 ⟨T2, F1.trans F2⟩⟩) ⟨T1, F1⟩ ?_⟩
  intro H2 hG
  replace hG : (fun M' H' => TermAt C H' p M' A g ∧ Frm H g H' g) (low2 M1 k) H2 := (congrArg (fun Z => TermAt C H2 p Z A g ∧ Frm H g H2 g) (low_one (k := k) (n := 4))).mp hG
  generalize eM2 : low2 M1 k = M2 at hG
  obtain ⟨T2, F2⟩ := hG
  refine ⟨_, rfl, (by show 2 ≤ sizeLine; decide), fun d hd => ⟨d, _, rfl, .inr (SqT.of upd_same), rfl, rfl, _, rfl, ?_⟩⟩
  have T3 := T2.grow (same_new (o := .tup [V.int 5, V.int 8]) hd)
  have F3 := F2.trans (Frm.same g (same_new (o := .tup [V.int 5, V.int 8]) hd))
  show if inV (V.int (k : Int)) [V.int ((5 : Nat) : Int), V.int ((8 : Nat) : Int)] = true then _ else _
  generalize upd H2 d (.tup [V.int 5, V.int 8]) = H3 at T3 F3 ⊢
  refine ite_upd (G := fun M' H' => TermAt C H' p M' A g ∧ Frm H g H' g) (M1 := { M2 with off := 0 }) (M2 := M2) (fun r => ⟨_, rfl, p, M2, A, g, { M2 with off := 0 }, rfl, T3, ⟨fun _ => rfl, rfl, rfl, rfl, rfl, rfl⟩, fun H4 T4 F4 => r H4 ⟨T4, F3.trans F4⟩⟩) ⟨T3, F3⟩ ?_
  intro H4 hG
  replace hG : (fun M' H' => TermAt C H' p M' A g ∧ Frm H g H' g) (low3 M2 k) H4 := (congrArg (fun Z => TermAt C H4 p Z A g ∧ Frm H g H4 g) (low_two (k := k) (a := 5) (b := 8))).mp hG
  generalize eM4 : low3 M2 k = M4 at hG
  obtain ⟨T4, F4⟩ := hG
  refine ⟨_, rfl, rfl, _, rfl, ite_upd (G := fun M' H' => TermAt C H' p M' A g ∧ Frm H g H' g) (M1 := { M4 with hushed := 1 }) (M2 := M4) (fun r => ⟨_, rfl, p, M4, A, g, { M4 with hushed := 1 }, rfl, T4, ⟨fun _ => rfl, rfl, rfl, rfl, rfl, rfl⟩, fun H5 T5 F5 => r H5 ⟨T5, F4.trans F5⟩⟩) ⟨T4, F4⟩ ?_⟩
  intro H5 hG
  replace hG : (fun M' H' => TermAt C H' p M' A g ∧ Frm H g H' g) (low4 M4 k) H5 := (congrArg (fun Z => TermAt C H5 p Z A g ∧ Frm H g H5 g) (low_one (k := k) (n := 6))).mp hG
  generalize eM5 : low4 M4 k = M5 at hG
  obtain ⟨T5, F5⟩ := hG
  refine ⟨_, rfl, (by show 2 ≤ sizeLine; decide), fun d hd => ⟨d, _, rfl, .inr (SqT.of upd_same), rfl, rfl, _, rfl, ?_⟩⟩
  have T6 := T5.grow (same_new (o := .tup [V.int 7, V.int 8]) hd)
  have F6 := F5.trans (Frm.same g (same_new (o := .tup [V.int 7, V.int 8]) hd))
  show if inV (V.int (k : Int)) [V.int ((7 : Nat) : Int), V.int ((8 : Nat) : Int)] = true then _ else _
  generalize upd H5 d (.tup [V.int 7, V.int 8]) = H6 at T6 F6 ⊢
  refine ite_upd (G := fun M' H' => TermAt C H' p M' A g ∧ Frm H g H' g) (M1 := { M5 with hushed := 0 }) (M2 := M5) (fun r => ⟨_, rfl, p, M5, A, g, { M5 with hushed := 0 }, rfl, T6, ⟨fun _ => rfl, rfl, rfl, rfl, rfl, rfl⟩, fun H7 T7 F7 => r H7 ⟨T7, F6.trans F7⟩⟩) ⟨T6, F6⟩ ?_
  intro H7 hG
  have hG : TermAt C H7 p (low5 M5 k) A g ∧ Frm H g H7 g := (congrArg (fun Z => TermAt C H7 p Z A g ∧ Frm H g H7 g) (low_two (k := k) (a := 7) (b := 8))).mp hG
  refine q H7 ?_ hG.2
  rw [low_all, eM1, eM2, eM4, eM5]
  exact hG.1

def spFirst (C : Addr) : Sp := fun vs H Q _ => ∃ p M A g, ∃ k : Nat, vs = [.ref p, .int k] ∧ TermAt C H p M A g ∧ k < 32 ∧ Q (.int (firstGiven M k)) H
theorem sc_first_given : FnScope ["terminal", "sub", "given"] ["terminal", "sub"] (defScope (top 65)) := ⟨rfl, rfl, rfl, by decide +kernel, rfl, by decide +kernel, by decide +kernel⟩
theorem ok_first_given (T : Txt K mg C) : Kn P w K mg base 1 "first_given" ["terminal", "sub"] (spFirst C) := by
  refine T.g_first_given.kn sc_first_given (fun _ _ _ _ _ _ us hl => match us, hl with | [_, _], _ => rfl) (fun vs H Q E h => ?_) (fun f cdv A outer s H vs Q E hr h => ?_)
  · obtain ⟨p, M, A, g, k, rfl, _⟩ := h
    rfl
  obtain ⟨p, M, A, g, k, rfl, hT, hk, q⟩ := h
  refine ⟨_, (pss_cons (ps_set (i := 2) sc_first_given.nd rfl (Or.inl rfl) (pe_ix ix_list (pe_tf T 3 (pv 0)) (pv 1) (fun _ _ => rfl)))
      (pss_cons (ps_if (pt_cmpR op_eq (pe_callB call_len_seq (by rfl) T.b_len PySem.boot_len (pa_cons (pv 2) pa_nil)) pe_int (nomark _)) (pss_one (ps_ret pe_int)) pss_nil)
      (pss_one (ps_ret (pe_ix ix_list (pv 2) pe_int (fun _ _ => rfl)))))), ?_⟩
  refine ⟨_, rfl, p, M, A, g, _, rfl, hT, rfl, _, rfl, A.gi, _, _, _, rfl, rfl, SqL.of hT.gi, atI_nat (refs_get _ hk), ?_⟩
  have hl := hT.giI k hk
  unfold firstGiven at q
  refine ⟨_, rfl, A.giI k, _, rfl, .inl (SqL.of hl), rfl, _, rfl, ?_⟩
  generalize M.given.getD k [] = l at hl q ⊢
  cases l with
  | nil => exact iteT q
  | cons a r =>
    refine ite2 (fun h => ?_) fun h => ?_
    · have h := of_decide_eq_true h
      injection h with h
      rw [nums_len, List.length_cons] at h
      omega
    · exact ⟨_, rfl, A.giI k, _, _, _, rfl, rfl, SqL.of hl, atI_nat (j := 0) rfl, q⟩
end
end Bt
end
section
set_option Elab.async false
set_option linter.all false
set_option maxRecDepth 100000
set_option maxHeartbeats 4000000
/-! The defs of modes.py, the second half. -/
namespace Bt
open PySem PySem.Spec PyProof.Rows L2
open Sa67 (toOf sends subOf countOf many mode onWire gone)
section
variable {P : Program} {w : World} {K : PySem.W.Frag} {mg : Str → Option Value} {base : Heap} {C : Addr}
theorem sc_do_low_mode : FnScope ["terminal", "command", "code", "control_taken"] ["terminal", "command"] (defScope (top 62)) := ⟨rfl, rfl, rfl, by decide +kernel, rfl, by decide +kernel, by decide +kernel⟩
theorem ok_do_low_mode (T : Txt K mg C) : Kn P w K mg base 7 "do_low_mode" ["terminal", "command"] (spMC C doLow) := by
  refine T.g_do_low_mode.kn sc_do_low_mode (fun _ _ _ _ _ _ us hl => match us, hl with | [_, _], _ => rfl) spMC_len (fun f cdv A outer s H vs Q E hr h => ?_)
  obtain ⟨p, M, A, g, c, rfl, hT, wf, q⟩ := h
  refine ⟨_, (pss_cons (ps_set (i := 2) sc_do_low_mode.nd rfl (Or.inl rfl) (pe_kn (ok_count_of T) hr (pa_cons (pv 1) pa_nil)))
      (pss_one (ps_if (pt_not (pt_val (pe_kn (ok_is_low_mode_in_order T) hr (pa_cons (pv 0) (pa_cons (pv 1) pa_nil))))) (pss_one (ps_expr (pe_kn (ok_reply_error T) hr (pa_cons (pv 0) (pa_cons (pv 1) pa_nil))))) (pss_one (ps_if (pt_cmpR op_eq (pv 2) (pe_cn T.c_REPEAT_STATUS) (nomark _)) (pss_one (ps_expr (pe_kn (ok_send T) hr (pa_cons (pv 0) (pa_cons (pe_tf T 8 (pv 0)) (pa_cons (pe_lst pa_nil) pa_nil)))))) (pss_one (ps_if (pt_cmpR op_eq (pv 2) (pe_cn T.c_TAKE_CONTROL) (nomark _)) (pss_cons (ps_set (i := 3) sc_do_low_mode.nd rfl (Or.inl rfl) (pe_ifExp (pt_val (pe_kn (ok_may_hand_over_control T) hr (pa_cons (pv 0) pa_nil))) pe_int pe_int))
      (pss_one (ps_expr (pe_kn (ok_send T) hr (pa_cons (pv 0) (pa_cons (pe_kn (ok_status_of T) hr (pa_cons (pv 0) (pa_cons (pv 3) pa_nil))) (pa_cons (pe_lst pa_nil) pa_nil))))))) (pss_cons (ps_expr (pe_kn (ok_change_by_low_mode T) hr (pa_cons (pv 0) (pa_cons (pv 2) pa_nil))))
      (pss_one (ps_expr (pe_kn (ok_reply T) hr (pa_cons (pv 0) (pa_cons (pv 1) (pa_cons (pe_lst pa_nil) pa_nil)))))))))))))), ?_⟩
  refine ⟨_, rfl, c, rfl, trivial, _, rfl, _, rfl, p, M, A, g, c, rfl, hT, wf, fun H1 S1 => ⟨_, rfl, ?_⟩⟩
  have T1 := hT.grow S1
  have F1 := Frm.same g S1
  unfold doLow at q
  show if (!lowInOrder M c) = true then _ else _
  cases hlo : lowInOrder M c with
  | false =>
    rw [if_pos hlo] at q
    exact iteT ⟨_, rfl, _, rfl, p, M, A, g, c, rfl, T1, wf, q.from F1⟩
  | true =>
    rw [if_neg (by rw [hlo]; decide)] at q
    refine iteF ⟨_, rfl, rfl, _, rfl, ?_⟩
    show if decide (V.int (countOf c : Int) = V.int ((2 : Nat) : Int)) = true then _ else _
    rw [dec_nat]
    refine ite2 (fun h2 => ?_) fun h2 => ?_
    · rw [if_pos (of_decide_eq_true h2)] at q
      exact ⟨_, rfl, _, rfl, p, M, A, g, _, rfl, T1, rfl, send_none T1 wf.ls F1 q⟩
    · rw [if_neg (fun z => h2 (decide_eq_true z))] at q
      refine ⟨_, rfl, rfl, _, rfl, ?_⟩
      show if decide (V.int (countOf c : Int) = V.int ((0 : Nat) : Int)) = true then _ else _
      rw [dec_nat]
      refine ite2 (fun h0 => ?_) fun h0 => ?_
      · rw [if_pos (of_decide_eq_true h0)] at q
        refine ⟨_, rfl, p, M, A, g, rfl, T1, _, rfl, ?_⟩
        refine ite2 (fun hb => ?_) fun hb => ?_
        · rw [if_pos hb] at q
          exact ⟨_, rfl, _, rfl, _, rfl, p, M, A, g, 1, rfl, T1, wf, by omega, send_none T1 (status_lt wf (by omega)) F1 q⟩
        · rw [if_neg hb] at q
          exact ⟨_, rfl, _, rfl, _, rfl, p, M, A, g, 0, rfl, T1, wf, by omega, send_none T1 (status_lt wf (by omega)) F1 q⟩
      · rw [if_neg (fun z => h0 (decide_eq_true z))] at q
        exact ⟨_, rfl, _, rfl, p, M, A, g, _, rfl, T1, fun H2 T2 F2 => ⟨_, rfl, _, rfl, reply_none T2 (wf.changeLow _) (F1.trans F2) q⟩⟩

theorem first_lt {M : Mir} (wf : Wf M) (k : Nat) : firstGiven M k < 65536 := by
  have h := (wf.gis k).2
  unfold firstGiven
  generalize M.given.getD k [] = l at h ⊢
  cases l with
  | nil => show 0 < 65536; decide
  | cons a r => exact h a List.mem_cons_self
theorem sc_do_sending_mode : FnScope ["terminal", "command", "code", "sub"] ["terminal", "command"] (defScope (top 64)) := ⟨rfl, rfl, rfl, by decide +kernel, rfl, by decide +kernel, by decide +kernel⟩
theorem ok_do_sending_mode (T : Txt K mg C) : Kn P w K mg base 7 "do_sending_mode" ["terminal", "command"] (spMC C doSending) := by
  refine T.g_do_sending_mode.kn sc_do_sending_mode (fun _ _ _ _ _ _ us hl => match us, hl with | [_, _], _ => rfl) spMC_len (fun f cdv A outer s H vs Q E hr h => ?_)
  obtain ⟨p, M, A, g, c, rfl, hT, wf, q⟩ := h
  refine ⟨_, (pss_cons (ps_set (i := 2) sc_do_sending_mode.nd rfl (Or.inl rfl) (pe_kn (ok_count_of T) hr (pa_cons (pv 1) pa_nil)))
      (pss_one (ps_if (PW.pt (pw_or (pt_val (pe_kn (ok_is_to_all T) hr (pa_cons (pv 1) pa_nil))) (pw_or1 (pt_not (pt_val (pe_kn (ok_is_mode_allowed T) hr (pa_cons (pv 0) (pa_cons (pv 2) pa_nil)))))))) (pss_one (ps_expr (pe_kn (ok_reply_error T) hr (pa_cons (pv 0) (pa_cons (pv 1) pa_nil))))) (pss_one (ps_if (pt_cmpR op_eq (pv 2) (pe_cn T.c_REPEAT_COMMAND) (nomark _)) (pss_one (ps_expr (pe_kn (ok_reply T) hr (pa_cons (pv 0) (pa_cons (pv 1) (pa_cons (pe_lst (pa_cons (pe_tf T 7 (pv 0)) pa_nil)) pa_nil)))))) (pss_one (ps_if (pt_val (pe_kn (ok_is_busy T) hr (pa_cons (pv 0) pa_nil))) (pss_one (ps_expr (pe_kn (ok_reply T) hr (pa_cons (pv 0) (pa_cons (pv 1) (pa_cons (pe_lst pa_nil) pa_nil)))))) (pss_cons (ps_set (i := 3) sc_do_sending_mode.nd rfl (Or.inl rfl) (pe_ifExp (pt_cmpR op_eq (pv 2) (pe_cn T.c_SERVICE_WORD) (nomark _)) pe_int pe_int))
      (pss_one (ps_expr (pe_kn (ok_reply T) hr (pa_cons (pv 0) (pa_cons (pv 1) (pa_cons (pe_lst (pa_cons (pe_kn (ok_first_given T) hr (pa_cons (pv 0) (pa_cons (pv 3) pa_nil))) pa_nil)) pa_nil)))))))))))))), ?_⟩
  have F0 := Frm.refl H g
  refine ⟨_, rfl, c, rfl, trivial, _, rfl, c, rfl, trivial, _, rfl, ?_⟩
  unfold doSending at q
  refine ite2 (fun h => ?_) fun h => ?_
  · rw [h, Bool.true_or, if_pos rfl] at q
    exact iteT ⟨_, rfl, _, rfl, p, M, A, g, c, rfl, hT, wf, q⟩
  · rw [Bool.eq_false_iff.mpr h, Bool.false_or] at q
    refine ⟨_, rfl, _, rfl, p, M, A, g, _, rfl, hT, wf, _, rfl, ?_⟩
    cases hm : modeAllowed M (countOf c) with
    | false =>
      rw [hm, Bool.not_false, if_pos rfl] at q
      exact iteT ⟨_, rfl, _, rfl, p, M, A, g, c, rfl, hT, wf, q⟩
    | true =>
      rw [hm, Bool.not_true, if_neg Bool.false_ne_true] at q
      refine iteF ⟨_, rfl, rfl, _, rfl, ?_⟩
      show if decide (V.int (countOf c : Int) = V.int ((18 : Nat) : Int)) = true then _ else _
      rw [dec_nat]
      refine ite2 (fun h18 => ?_) fun h18 => ?_
      · rw [if_pos (of_decide_eq_true h18)] at q
        exact ⟨_, rfl, _, rfl, _, rfl, p, M, A, g, _, rfl, hT, rfl, reply_one hT wf wf.lc F0 q⟩
      · rw [if_neg (fun z => h18 (decide_eq_true z))] at q
        refine ⟨_, rfl, p, M, A, g, rfl, hT, _, rfl, ?_⟩
        refine ite2 (fun hb => ?_) fun hb => ?_
        · rw [if_pos hb] at q
          exact ⟨_, rfl, _, rfl, reply_none hT wf F0 q⟩
        · rw [if_neg hb] at q
          refine ⟨_, rfl, rfl, _, rfl, ?_⟩
          show if decide (V.int (countOf c : Int) = V.int ((16 : Nat) : Int)) = true then _ else _
          rw [dec_nat]
          refine ite2 (fun h16 => ?_) fun h16 => ?_
          · rw [if_pos (of_decide_eq_true h16)] at q
            exact ⟨_, rfl, _, rfl, _, rfl, _, rfl, p, M, A, g, 0, rfl, hT, by decide, reply_one hT wf (first_lt wf 0) F0 q⟩
          · rw [if_neg (fun z => h16 (decide_eq_true z))] at q
            exact ⟨_, rfl, _, rfl, _, rfl, _, rfl, p, M, A, g, 31, rfl, hT, by decide, reply_one hT wf (first_lt wf 31) F0 q⟩

theorem sc_do_mode : FnScope ["terminal", "command"] ["terminal", "command"] (defScope (top 60)) := ⟨rfl, rfl, rfl, by decide +kernel, rfl, by decide +kernel, by decide +kernel⟩
theorem ok_do_mode (T : Txt K mg C) : Kn P w K mg base 8 "do_mode" ["terminal", "command"] (spMC C doMode) := by
  refine T.g_do_mode.kn sc_do_mode (fun _ _ _ _ _ _ us hl => match us, hl with | [_, _], _ => rfl) spMC_len (fun f cdv A outer s H vs Q E hr h => ?_)
  obtain ⟨p, M, A, g, c, rfl, hT, wf, q⟩ := h
  refine ⟨_, (pss_one (ps_if (pt_cmpR op_lt (pe_kn (ok_count_of T) hr (pa_cons (pv 1) pa_nil)) (pe_cn T.c_FIRST_HIGH_MODE) (nomark _)) (pss_one (ps_expr (pe_kn (ok_do_low_mode T) hr (pa_cons (pv 0) (pa_cons (pv 1) pa_nil))))) (pss_one (ps_if (pt_val (pe_kn (ok_sends_a_word T) hr (pa_cons (pv 1) pa_nil))) (pss_one (ps_expr (pe_kn (ok_do_sending_mode T) hr (pa_cons (pv 0) (pa_cons (pv 1) pa_nil))))) (pss_one (ps_expr (pe_kn (ok_reply_error T) hr (pa_cons (pv 0) (pa_cons (pv 1) pa_nil))))))))), ?_⟩
  refine ⟨_, rfl, c, rfl, trivial, _, _, rfl, rfl, _, rfl, ?_⟩
  unfold doMode at q
  refine ite2 (fun h => ?_) fun h => ?_
  · have h : (countOf c : Int) < 16 := of_decide_eq_true h
    rw [if_pos (by omega)] at q
    exact ⟨_, rfl, _, rfl, p, M, A, g, c, rfl, hT, wf, q⟩
  · have h : ¬ (countOf c : Int) < 16 := fun z => h (decide_eq_true z)
    rw [if_neg (by omega)] at q
    refine ⟨_, rfl, c, rfl, trivial, fun H1 S1 => ⟨_, rfl, ?_⟩⟩
    refine ite2 (fun h => ?_) fun h => ?_
    · rw [if_pos h] at q
      exact ⟨_, rfl, _, rfl, p, M, A, g, c, rfl, hT.grow S1, wf, q.from (Frm.same g S1)⟩
    · rw [if_neg h] at q
      exact ⟨_, rfl, _, rfl, p, M, A, g, c, rfl, hT.grow S1, wf, q.from (Frm.same g S1)⟩

def spTake (C : Addr) : Sp := fun vs H Q _ => ∃ p M A g, ∃ c v : Nat, vs = [.ref p, .int c, .int v] ∧ TermAt C H p M A g ∧ Wf M ∧ Post C H g p (finishTaking M c v) Q
theorem sc_finish_taking_mode : FnScope ["terminal", "command", "word", "code"] ["terminal", "command", "word"] (defScope (top 66)) := ⟨rfl, rfl, rfl, by decide +kernel, rfl, by decide +kernel, by decide +kernel⟩
theorem ok_finish_taking_mode (T : Txt K mg C) : Kn P w K mg base 6 "finish_taking_mode" ["terminal", "command", "word"] (spTake C) := by
  refine T.g_finish_taking_mode.kn sc_finish_taking_mode (fun _ _ _ _ _ _ us hl => match us, hl with | [_, _, _], _ => rfl) (fun vs H Q E h => ?_) (fun f cdv A outer s H vs Q E hr h => ?_)
  · obtain ⟨p, M, A, g, c, v, rfl, _⟩ := h
    rfl
  obtain ⟨p, M, A, g, c, v, rfl, hT, wf, q⟩ := h
  refine ⟨_, (pss_cons (ps_set (i := 3) sc_finish_taking_mode.nd rfl (Or.inl rfl) (pe_kn (ok_count_of T) hr (pa_cons (pv 1) pa_nil)))
      (pss_cons (ps_if (pt_not (pt_val (pe_kn (ok_is_mode_allowed T) hr (pa_cons (pv 0) (pa_cons (pv 3) pa_nil))))) (pss_one (ps_ts T 10 (pv 0) pe_int)) (pss_one (ps_if (pt_cmpR op_eq (pv 3) (pe_cn T.c_SET_STEP) (nomark _)) (pss_one (ps_ts T 9 (pv 0) (pv 2))) (pss_one (ps_if (pt_cmpR op_eq (pv 2) pe_int (nomark _)) (pss_one (ps_ts T 12 (pv 0) (pe_ifExp (pt_cmpR op_eq (pv 3) (pe_cn T.c_CHOSEN_WIRE_OFF) (nomark _)) pe_int pe_int))) pss_nil)))))
      (pss_one (ps_expr (pe_kn (ok_reply T) hr (pa_cons (pv 0) (pa_cons (pv 1) (pa_cons (pe_lst pa_nil) pa_nil)))))))), ?_⟩
  refine ⟨_, rfl, c, rfl, trivial, _, rfl, _, rfl, p, M, A, g, _, rfl, hT, wf, _, rfl, ?_⟩
  have wt := wf.takeMode c v
  unfold finishTaking at q
  unfold takeMode at q wt
  show if (!modeAllowed M (countOf c)) = true then _ else _
  cases hm : modeAllowed M (countOf c) with
  | false =>
    rw [if_pos hm] at q wt
    exact iteT ⟨_, rfl, p, M, A, g, { M with error := 1 }, rfl, hT, ⟨fun _ => rfl, rfl, rfl, rfl, rfl, rfl⟩, fun H1 T1 F1 => ⟨_, rfl, _, rfl, reply_none T1 wt F1 q⟩⟩
  | true =>
    rw [if_neg (by rw [hm]; decide)] at q wt
    refine iteF ⟨_, rfl, rfl, _, rfl, ?_⟩
    show if decide (V.int (countOf c : Int) = V.int ((17 : Nat) : Int)) = true then _ else _
    rw [dec_nat]
    refine ite2 (fun h17 => ?_) fun h17 => ?_
    · rw [if_pos (of_decide_eq_true h17)] at q wt
      exact ⟨_, rfl, _, rfl, p, M, A, g, { M with step := v }, rfl, hT, ⟨fun _ => rfl, rfl, rfl, rfl, rfl, rfl⟩, fun H1 T1 F1 => ⟨_, rfl, _, rfl, reply_none T1 wt F1 q⟩⟩
    · rw [if_neg (fun z => h17 (decide_eq_true z))] at q wt
      refine ⟨_, rfl, rfl, _, rfl, ?_⟩
      show if decide (V.int (v : Int) = V.int ((1 : Nat) : Int)) = true then _ else _
      rw [dec_nat]
      refine ite2 (fun h1 => ?_) fun h1 => ?_
      · rw [if_pos (of_decide_eq_true h1)] at q wt
        refine ⟨_, rfl, rfl, _, rfl, ?_⟩
        show if decide (V.int (countOf c : Int) = V.int ((20 : Nat) : Int)) = true then _ else _
        rw [dec_nat]
        refine ite2 (fun h20 => ?_) fun h20 => ?_
        · rw [if_pos (of_decide_eq_true h20)] at q wt
          exact ⟨_, rfl, p, M, A, g, { M with off := 1 }, rfl, hT, ⟨fun _ => rfl, rfl, rfl, rfl, rfl, rfl⟩, fun H1 T1 F1 => ⟨_, rfl, _, rfl, reply_none T1 wt F1 q⟩⟩
        · rw [if_neg (fun z => h20 (decide_eq_true z))] at q wt
          exact ⟨_, rfl, p, M, A, g, { M with off := 0 }, rfl, hT, ⟨fun _ => rfl, rfl, rfl, rfl, rfl, rfl⟩, fun H1 T1 F1 => ⟨_, rfl, _, rfl, reply_none T1 wt F1 q⟩⟩
      · rw [if_neg (fun z => h1 (decide_eq_true z))] at q wt
        exact ⟨_, rfl, _, rfl, reply_none hT wt (Frm.refl H g) q⟩
end
end Bt
end
section
set_option Elab.async false
set_option linter.all false
set_option maxRecDepth 100000
set_option maxHeartbeats 4000000
/-! The defs of commands.py, the first half. -/
namespace Bt
open PySem PySem.Spec PyProof.Rows L2
open Sa67 (toOf sends subOf countOf many mode onWire gone)
section
variable {P : Program} {w : World} {K : PySem.W.Frag} {mg : Str → Option Value} {base : Heap} {C : Addr}
theorem Sc.cast {i : Nat} {M M' : Mir} {x y : Int} (s : Sc i M M' (V.int y)) (e : x = y) : Sc i M M' (V.int x) := e ▸ s
theorem cast_mod (n k : Nat) : ((n : Int) + 1) % (k : Int) = (((n + 1) % k : Nat) : Int) := by
  rw [Int.natCast_emod, Int.natCast_add]
  rfl
theorem sub_lt (c : Nat) : subOf c < 32 := by unfold subOf; omega
theorem ixN_nat {n j : Nat} (h : j < n) : ixN n (j : Int) = some j := by
  unfold ixN
  rw [if_pos (by omega), if_pos (by omega), Int.toNat_natCast]
/-- a terminal in, changed -/
def spM1 (C : Addr) (f : Mir → Mir) : Sp := fun vs H Q _ => ∃ p M A g, vs = [.ref p] ∧ TermAt C H p M A g ∧ Post C H g p (f M) Q
theorem spM1_len {f : Mir → Mir} {x : Str} : ∀ vs H Q E, spM1 C f vs H Q E → vs.length = [x].length := fun vs H Q E h => by
  obtain ⟨p, M, A, g, rfl, _⟩ := h
  rfl
theorem sc_count_error : FnScope ["terminal"] ["terminal"] (defScope (top 76)) := ⟨rfl, rfl, rfl, by decide +kernel, rfl, by decide +kernel, by decide +kernel⟩
theorem ok_count_error (T : Txt K mg C) : Kn P w K mg base 1 "count_error" ["terminal"] (spM1 C countError) := by
  refine T.g_count_error.kn sc_count_error (fun _ _ _ _ _ _ us hl => match us, hl with | [_], _ => rfl) spM1_len (fun f cdv A outer s H vs Q E hr h => ?_)
  obtain ⟨p, M, A, g, rfl, hT, q⟩ := h
  refine ⟨_, (pss_cons (ps_ts T 10 (pv 0) pe_int)
      (pss_one (ps_ts T 6 (pv 0) (pe_op op_mod (pe_op op_add (pe_tf T 6 (pv 0)) pe_int) (pe_cn T.c_COUNTER_SPAN))))), ?_⟩
  refine ⟨_, rfl, p, M, A, g, { M with error := 1 }, rfl, hT, ⟨fun _ => rfl, rfl, rfl, rfl, rfl, rfl⟩, fun H1 T1 F1 => ?_⟩
  exact ⟨_, rfl, p, _, A, g, _, rfl, T1, rfl, _, _, rfl, rfl, _, _, rfl, rfl, (by show (0 : Int) < 65536; decide), _, rfl, p, _, A, g, countError M, rfl, T1, Sc.cast ⟨fun _ => rfl, rfl, rfl, rfl, rfl, rfl⟩ (cast_mod M.errors 65536), fun H2 T2 F2 => q H2 A g T2 (F1.trans F2)⟩

theorem no_drop (vl : List V) : (names.zip vl).lookup ("drop_command" : Str) = none := zip_lookup_none (by decide +kernel)
theorem sc_fail : FnScope ["terminal"] ["terminal"] (defScope (top 75)) := ⟨rfl, rfl, rfl, by decide +kernel, rfl, by decide +kernel, by decide +kernel⟩
theorem ok_fail (T : Txt K mg C) : Kn P w K mg base 2 "fail" ["terminal"] (spM1 C fail) := by
  refine T.g_fail.kn sc_fail (fun _ _ _ _ _ _ us hl => match us, hl with | [_], _ => rfl) spM1_len (fun f cdv A outer s H vs Q E hr h => ?_)
  obtain ⟨p, M, A, g, rfl, hT, q⟩ := h
  refine ⟨_, (pss_cons (ps_expr (pe_kn (ok_count_error T) hr (pa_cons (pv 0) pa_nil)))
      (pss_one (ps_expr (pe_mt0 T.cl (ok_drop_command T) hr (pv 0))))), ?_⟩
  exact ⟨_, rfl, p, M, A, g, rfl, hT, fun H1 A1 g1 T1 F1 => ⟨_, rfl, p, A1.dx, _, rfl, T1.ins, no_drop _, p, _, A1, g1, rfl, T1, fun H2 A2 g2 T2 F2 _ _ => q H2 A2 g2 T2 (F1.trans F2)⟩⟩

def spIsFor (C : Addr) : Sp := fun vs H Q _ => ∃ p M A g, ∃ c : Nat, vs = [.ref p, .int c] ∧ TermAt C H p M A g ∧ Q (.bl (isFor M c)) H
theorem sc_is_for : FnScope ["terminal", "command"] ["terminal", "command"] (defScope (top 73)) := ⟨rfl, rfl, rfl, by decide +kernel, rfl, by decide +kernel, by decide +kernel⟩
theorem ok_is_for (T : Txt K mg C) : Kn P w K mg base 3 "is_for" ["terminal", "command"] (spIsFor C) := by
  refine T.g_is_for.kn sc_is_for (fun _ _ _ _ _ _ us hl => match us, hl with | [_, _], _ => rfl) (fun vs H Q E h => ?_) (fun f cdv A outer s H vs Q E hr h => ?_)
  · obtain ⟨p, M, A, g, c, rfl, _⟩ := h
    rfl
  obtain ⟨p, M, A, g, c, rfl, hT, q⟩ := h
  refine ⟨_, (pss_one (ps_ret (pe_or (pe_kn (ok_is_to_all T) hr (pa_cons (pv 1) pa_nil)) (pe_one (pe_cmpR op_eq (pe_kn (ok_address_of T) hr (pa_cons (pv 1) pa_nil)) (pe_tf T 0 (pv 0)) (nomark _)))))), ?_⟩
  refine ⟨_, rfl, c, rfl, trivial, _, rfl, ?_⟩
  unfold isFor at q
  refine ite2 (fun h => ?_) fun h => ?_
  · rw [h, Bool.true_or] at q
    exact q
  · rw [Bool.eq_false_iff.mpr h, Bool.false_or] at q
    have e : decide (V.int (toOf c : Int) = V.int (M.address : Int)) = (toOf c == M.address) := (dec_nat _ _).trans (by rfl)
    rw [← e] at q
    exact ⟨_, rfl, c, rfl, trivial, _, rfl, p, M, A, g, _, rfl, hT, rfl, rfl, q⟩

theorem sc_notice_silence : FnScope ["terminal", "now", "longest"] ["terminal", "now"] (defScope (top 74)) := ⟨rfl, rfl, rfl, by decide +kernel, rfl, by decide +kernel, by decide +kernel⟩
theorem ok_notice_silence (T : Txt K mg C) : Kn P w K mg base 3 "notice_silence" ["terminal", "now"] (spMC C silence) := by
  refine T.g_notice_silence.kn sc_notice_silence (fun _ _ _ _ _ _ us hl => match us, hl with | [_, _], _ => rfl) spMC_len (fun f cdv A outer s H vs Q E hr h => ?_)
  obtain ⟨p, M, A, g, now, rfl, hT, wf, q⟩ := h
  refine ⟨_, (pss_cons (ps_set (i := 2) sc_notice_silence.nd rfl (Or.inl rfl) (pe_ifExp (pt_cmpR op_eq (pe_tf T 15 (pv 0)) (pe_cn T.c_SENDER_STATUS) (nomark _)) (pe_cn T.c_LONGEST_STATUS_GAP) (pe_cn T.c_LONGEST_GAP)))
      (pss_one (ps_if (PW.pt (pw_and (pt_cmpR op_ne (pe_tf T 15 (pv 0)) (pe_cn T.c_NOTHING) (nomark _)) (pw_and1 (pt_cmpR op_gt (pe_kn (ok_time_between T) hr (pa_cons (pe_tf T 17 (pv 0)) (pa_cons (pv 1) pa_nil))) (pv 2) (nomark _))))) (pss_one (ps_expr (pe_kn (ok_fail T) hr (pa_cons (pv 0) pa_nil)))) pss_nil))), ?_⟩
  refine ⟨_, rfl, p, M, A, g, _, rfl, hT, rfl, rfl, _, rfl, ?_⟩
  unfold silence longest at q
  have e0 : decide (V.int (M.awaited : Int) = V.int 0) = decide (M.awaited = 0) := dec_nat _ 0
  have e2 : decide (V.int (M.awaited : Int) = V.int ((2 : Nat) : Int)) = decide (M.awaited = 2) := dec_nat _ 2
  show if decide (V.int (M.awaited : Int) = V.int ((2 : Nat) : Int)) = true then _ else _
  rw [e2]
  refine ite2 (fun h2 => ?_) fun h2 => ?_
  · have h2 := of_decide_eq_true h2
    rw [if_pos h2] at q
    refine ⟨_, rfl, p, M, A, g, _, rfl, hT, rfl, rfl, _, rfl, ?_⟩
    show if (!decide (V.int (M.awaited : Int) = V.int 0)) = true then _ else _
    rw [e0]
    refine ite2 (fun h0 => ?_) fun h0 => ?_
    · refine ⟨_, rfl, p, M, A, g, _, rfl, hT, rfl, _, rfl, M.heardAt, now, rfl, wf.ha, _, rfl, _, _, rfl, rfl, _, rfl, ?_⟩
      refine ite2 (fun h => ?_) fun h => ?_
      · have h : (57 : Int) < (gone M.heardAt now : Int) := of_decide_eq_true h
        rw [if_pos ⟨by omega, by omega⟩] at q
        exact ⟨_, rfl, p, M, A, g, rfl, hT, q⟩
      · have h : ¬ (57 : Int) < (gone M.heardAt now : Int) := fun z => h (decide_eq_true z)
        rw [if_neg (fun z => by omega)] at q
        exact q H A g hT (Frm.refl H g)
    · rw [h2] at h0
      exact absurd rfl h0
  · have h2 : ¬ M.awaited = 2 := fun z => h2 (decide_eq_true z)
    rw [if_neg h2] at q
    refine ⟨_, rfl, p, M, A, g, _, rfl, hT, rfl, rfl, _, rfl, ?_⟩
    show if (!decide (V.int (M.awaited : Int) = V.int 0)) = true then _ else _
    rw [e0]
    refine ite2 (fun h0 => ?_) fun h0 => ?_
    · have h0 : ¬ M.awaited = 0 := fun z => by rw [decide_eq_true z] at h0; cases h0
      refine ⟨_, rfl, p, M, A, g, _, rfl, hT, rfl, _, rfl, M.heardAt, now, rfl, wf.ha, _, rfl, _, _, rfl, rfl, _, rfl, ?_⟩
      refine ite2 (fun h => ?_) fun h => ?_
      · have h : (23 : Int) < (gone M.heardAt now : Int) := of_decide_eq_true h
        rw [if_pos ⟨h0, by omega⟩] at q
        exact ⟨_, rfl, p, M, A, g, rfl, hT, q⟩
      · have h : ¬ (23 : Int) < (gone M.heardAt now : Int) := fun z => h (decide_eq_true z)
        rw [if_neg (fun z => by omega)] at q
        exact q H A g hT (Frm.refl H g)
    · rw [if_neg (fun z => h0 (by rw [decide_eq_false z.1]; rfl))] at q
      exact iteF (q H A g hT (Frm.refl H g))

def spAwait (C : Addr) : Sp := fun vs H Q _ => ∃ p M A g, ∃ c aw now : Nat, vs = [.ref p, .int c, .int aw, .int now] ∧ TermAt C H p M A g ∧ Post C H g p (awaitWords M c aw now) Q
theorem sc_await_words : FnScope ["terminal", "command", "awaited", "now"] ["terminal", "command", "awaited", "now"] (defScope (top 78)) := ⟨rfl, rfl, rfl, by decide +kernel, rfl, by decide +kernel, by decide +kernel⟩
theorem ok_await_words (T : Txt K mg C) : Kn P w K mg base 1 "await_words" ["terminal", "command", "awaited", "now"] (spAwait C) := by
  refine T.g_await_words.kn sc_await_words (fun _ _ _ _ _ _ us hl => match us, hl with | [_, _, _, _], _ => rfl) (fun vs H Q E h => ?_) (fun f cdv A outer s H vs Q E hr h => ?_)
  · obtain ⟨p, M, A, g, c, aw, now, rfl, _⟩ := h
    rfl
  obtain ⟨p, M, A, g, c, aw, now, rfl, hT, q⟩ := h
  refine ⟨_, (pss_cons (ps_ts T 15 (pv 0) (pv 2))
      (pss_cons (ps_ts T 16 (pv 0) (pv 1))
      (pss_one (ps_ts T 17 (pv 0) (pv 3))))), ?_⟩
  refine ⟨_, rfl, _, rfl, p, M, A, g, { M with awaited := aw }, rfl, hT, ⟨fun _ => rfl, rfl, rfl, rfl, rfl, rfl⟩, fun H1 T1 F1 => ?_⟩
  refine ⟨_, rfl, _, rfl, p, _, A, g, { M with awaited := aw, command := c }, rfl, T1, ⟨fun _ => rfl, rfl, rfl, rfl, rfl, rfl⟩, fun H2 T2 F2 => ?_⟩
  exact ⟨_, rfl, _, rfl, p, _, A, g, awaitWords M c aw now, rfl, T2, ⟨fun _ => rfl, rfl, rfl, rfl, rfl, rfl⟩, fun H3 T3 F3 => q H3 A g T3 ((F1.trans F2).trans F3)⟩

def spAllowed (C : Addr) : Sp := fun vs H Q _ => ∃ p M A g, ∃ what c : Nat, vs = [.ref p, .int what, .int c] ∧ TermAt C H p M A g ∧ Wf M ∧ what < 3 ∧ Q (.bl (isAllowed M what c)) H
theorem sc_is_allowed : FnScope ["terminal", "what", "command"] ["terminal", "what", "command"] (defScope (top 83)) := ⟨rfl, rfl, rfl, by decide +kernel, rfl, by decide +kernel, by decide +kernel⟩
theorem ok_is_allowed (T : Txt K mg C) : Kn P w K mg base 2 "is_allowed" ["terminal", "what", "command"] (spAllowed C) := by
  refine T.g_is_allowed.kn sc_is_allowed (fun _ _ _ _ _ _ us hl => match us, hl with | [_, _, _], _ => rfl) (fun vs H Q E h => ?_) (fun f cdv A outer s H vs Q E hr h => ?_)
  · obtain ⟨p, M, A, g, what, c, rfl, _⟩ := h
    rfl
  obtain ⟨p, M, A, g, what, c, rfl, hT, wf, hw, q⟩ := h
  refine ⟨_, (pss_one (ps_ret (pe_cmpR op_eq (pe_kn (ok_bit_of T) hr (pa_cons (pe_ix ix_list (pe_ix ix_list (pe_tf T 2 (pv 0)) (pv 1) (fun _ _ => rfl)) (pe_kn (ok_sub_of T) hr (pa_cons (pv 2) pa_nil)) (fun _ _ => rfl)) (pa_cons (pe_kn (ok_count_of T) hr (pa_cons (pv 2) pa_nil)) pa_nil))) pe_int (nomark _)))), ?_⟩
  have e : ∀ n : Nat, decide (V.int (bitOf n (countOf c) : Int) = V.int ((1 : Nat) : Int)) = n.testBit (countOf c) := fun n => (dec_nat _ _).trans (tb_eq _ _).symm
  unfold isAllowed at q
  rw [← e] at q
  have l1 : subOf c < (M.allowed.getD what []).length := by rw [wf.al0 what hw]; exact sub_lt c
  exact ⟨_, rfl, p, M, A, g, _, rfl, hT, rfl, _, rfl, A.al, _, _, _, rfl, rfl, SqL.of hT.al, atI_nat (refs_get _ (by omega)), _, rfl, c, rfl, trivial, A.alI what, _, _, _, rfl, rfl, SqL.of (hT.alI what (by omega)), atI_nat (nums_at l1), _, rfl, c, rfl, trivial, _, _, rfl, trivial, rfl, q⟩

theorem cut_take (l : List Nat) (m : Nat) : cutV (nums l) none (some (m : Int)) = nums (l.take m) := by
  unfold cutV
  rw [HT.sIx_none, HT.sIx_nat, Nat.sub_zero, List.drop_zero, nums_len]
  unfold nums
  rw [List.map_take, List.take_eq_take_iff, List.length_map]
  omega
theorem nums_app (l : List Nat) (n : Nat) : nums l ++ [V.int (n : Int)] = nums (l ++ [n]) := by
  unfold nums
  rw [List.map_append]
  rfl
def spWords (C : Addr) : Sp := fun vs H Q _ => ∃ p M A g, ∃ c : Nat, vs = [.ref p, .int c] ∧ TermAt C H p M A g ∧ ∀ H' a, Same H H' → H a = none → H' a = some (.lst (nums (wordsTo M c))) → Q (.ref a) H'
theorem sc_words_to_transmit : FnScope ["terminal", "command", "wanted", "words"] ["terminal", "command"] (defScope (top 86)) := ⟨rfl, rfl, rfl, by decide +kernel, rfl, by decide +kernel, by decide +kernel⟩
theorem ok_words_to_transmit (T : Txt K mg C) : Kn P w K mg base 3 "words_to_transmit" ["terminal", "command"] (spWords C) := by
  refine T.g_words_to_transmit.kn sc_words_to_transmit (fun _ _ _ _ _ _ us hl => match us, hl with | [_, _], _ => rfl) (fun vs H Q E h => ?_) (fun f cdv A outer s H vs Q E hr h => ?_)
  · obtain ⟨p, M, A, g, c, rfl, _⟩ := h
    rfl
  obtain ⟨p, M, A, g, c, rfl, hT, q⟩ := h
  refine ⟨_, (pss_cons (ps_set (i := 2) sc_words_to_transmit.nd rfl (Or.inl rfl) (pe_kn (ok_how_many_words T) hr (pa_cons (pv 1) pa_nil)))
      (pss_cons (ps_set (i := 3) sc_words_to_transmit.nd rfl (Or.inl rfl) (pe_slice sl_list (pe_ix ix_list (pe_tf T 3 (pv 0)) (pe_kn (ok_sub_of T) hr (pa_cons (pv 1) pa_nil)) (fun _ _ => rfl)) po_none (po_some (pv 2))))
      (pss_cons (ps_while PassesOwn.never (pt_cmpR op_lt (pe_callB call_len_seq (by rfl) T.b_len PySem.boot_len (pa_cons (pv 3) pa_nil)) (pv 2) (nomark _)) (pss_one (ps_expr (pe_bm PySem.F.plainAttrs_list PySem.F.slot_list_append PySem.F.type_list_append mt_append (pv 3) (pa_cons pe_int pa_nil)))))
      (pss_one (ps_ret (pv 3)))))), ?_⟩
  have hl := hT.giI (subOf c) (sub_lt c)
  refine ⟨_, rfl, c, rfl, trivial, _, rfl, p, M, A, g, _, rfl, hT, rfl, _, rfl, c, rfl, trivial, A.gi, _, _, _, rfl, rfl, SqL.of hT.gi, atI_nat (refs_get _ (sub_lt c)), _, rfl, _, rfl, A.giI (subOf c), _, rfl, SqL.of hl, fun d hd => ?_⟩
  unfold wordsTo at q
  have hm := many_le c
  generalize M.given.getD (subOf c) [] = l at hl q ⊢
  have hk : (l.take (many c)).length ≤ many c := by rw [List.length_take]; omega
  refine ⟨fun n σ' H' => σ' = [some (.ref p), some (.int (c : Int)), some (.int (many c : Int)), some (.ref d)] ∧ Same H H' ∧ ∃ k, H' d = some (.lst (nums (l.take (many c) ++ List.replicate k 0))) ∧ n + (l.take (many c)).length + k = many c,
    ⟨many c - (l.take (many c)).length, rfl, same_new hd, 0, by rw [upd_same, cut_take, List.replicate_zero, List.append_nil], by omega⟩, ?_⟩
  rintro n σ' H' ⟨rfl, S1, k, h1, en⟩
  refine ⟨_, rfl, d, _, rfl, .inl (SqL.of h1), _, rfl, _, _, rfl, rfl, _, rfl, ?_⟩
  have el : ((nums (l.take (many c) ++ List.replicate k 0)).length : Int) = ((l.take (many c)).length + k : Nat) := by
    rw [nums_len, List.length_append, List.length_replicate]
  refine ite2 (fun h => ?_) fun h => ?_
  · have h : ((nums (l.take (many c) ++ List.replicate k 0)).length : Int) < (many c : Int) := of_decide_eq_true h
    rw [el] at h
    refine ⟨fun σ' H' => σ' = [some (.ref p), some (.int (c : Int)), some (.int (many c : Int)), some (.ref d)] ∧ Same H H' ∧ H' d = some (.lst (nums (l.take (many c) ++ List.replicate (k + 1) 0))), fun σ2 H2 ⟨e, S2, h2⟩ => ⟨n - 1, by omega, e, S2, k + 1, h2, by omega⟩, ?_⟩
    refine ⟨_, rfl, .inl ⟨rfl, _, SqL.of h1⟩, d, _, _, rfl, rfl, h1, ?_, rfl, ?_, ?_⟩
    · have e2 : (nums (l.take (many c) ++ List.replicate k 0)).length < 32 := by omega
      exact Nat.lt_of_lt_of_le e2 (by decide)
    · exact fun b o e => by
        rw [upd_ne (ne_of_none e hd)]
        exact S1 b o e
    · rw [upd_same, List.replicate_succ', ← List.append_assoc, ← nums_app]
      rfl
  · have h : ¬ ((nums (l.take (many c) ++ List.replicate k 0)).length : Int) < (many c : Int) := fun z => h (decide_eq_true z)
    rw [el] at h
    have ek : k = many c - (l.take (many c)).length := by omega
    refine ⟨_, rfl, ?_⟩
    rw [ek] at h1
    exact q H' d S1 hd h1
end
end Bt
end
section
set_option Elab.async false
set_option linter.all false
set_option maxRecDepth 100000
set_option maxHeartbeats 4000000
/-! The defs of commands.py, the second half. -/
namespace Bt
open PySem PySem.Spec PyProof.Rows L2
open Sa67 (toOf sends subOf countOf many mode onWire gone)
section
variable {P : Program} {w : World} {K : PySem.W.Frag} {mg : Str → Option Value} {base : Heap} {C : Addr}
/-- what is nobody's stays as it is, but for one list that the terminal takes -/
def FrmX (d : Addr) (H : Hp) (g : Addr → Nat) (H' : Hp) (g' : Addr → Nat) : Prop := ∀ b o, b ≠ d → H b = some o → g b = 0 → H' b = some o ∧ g' b = 0
def PostX (C d : Addr) (H : Hp) (g : Addr → Nat) (p : Addr) (M' : Mir) (Q : VK) : Prop := ∀ H' A' g', TermAt C H' p M' A' g' → FrmX d H g H' g' → Q .non H'
theorem FrmX.trans {d : Addr} {H H1 H2 : Hp} {g g1 g2 : Addr → Nat} (a : FrmX d H g H1 g1) (b : Frm H1 g1 H2 g2) : FrmX d H g H2 g2 := fun c o n h z => b c o (a c o n h z).1 (a c o n h z).2
theorem Frm.x {d : Addr} {H H1 : Hp} {g g1 : Addr → Nat} (a : Frm H g H1 g1) : FrmX d H g H1 g1 := fun c o _ h z => a c o h z
theorem PostX.post {d : Addr} {H H1 : Hp} {g g1 : Addr → Nat} {p : Addr} {M : Mir} {Q : VK} (q : PostX C d H g p M Q) (F : FrmX d H g H1 g1) : Post C H1 g1 p M Q := fun H2 A2 g2 T2 F2 => q H2 A2 g2 T2 (F.trans F2)
def spRecv (C : Addr) : Sp := fun vs H Q _ => ∃ p M A g d, ∃ (c : Nat) (l : List Nat), vs = [.ref p, .int c, .ref d] ∧ TermAt C H p M A g ∧ Wf M ∧ H d = some (.lst (nums l)) ∧ g d = 0 ∧ l.length ≤ 32 ∧ PostX C d H g p (finishReceiving M c l) Q
theorem recv_tail {H H1 : Hp} {g g1 : Addr → Nat} {p d : Addr} {M1 : Mir} {A1 : Ad} {c : Nat} {Q : VK} (T1 : TermAt C H1 p M1 A1 g1) (wf : Wf M1) (F : FrmX d H g H1 g1) (q : PostX C d H g p (reply M1 c []) Q) :
    0 ≤ sizeLine ∧ ∀ d, H1 d = none → spReply C [.ref p, .int c, .ref d] (upd H1 d (.lst [])) Q E0 := reply_none T1 wf (Frm.refl H1 g1) (q.post F)
theorem sc_finish_receiving : FnScope ["terminal", "command", "words", "what"] ["terminal", "command", "words"] (defScope (top 84)) := ⟨rfl, rfl, rfl, by decide +kernel, rfl, by decide +kernel, by decide +kernel⟩
theorem ok_finish_receiving (T : Txt K mg C) : Kn P w K mg base 6 "finish_receiving" ["terminal", "command", "words"] (spRecv C) := by
  refine T.g_finish_receiving.kn sc_finish_receiving (fun _ _ _ _ _ _ us hl => match us, hl with | [_, _, _], _ => rfl) (fun vs H Q E h => ?_) (fun f cdv A outer s H vs Q E hr h => ?_)
  · obtain ⟨p, M, A, g, d, c, l, rfl, _⟩ := h
    rfl
  obtain ⟨p, M, A, g, d, c, l, rfl, hT, wf, hd, gd, hl, q⟩ := h
  refine ⟨_, (pss_cons (ps_set (i := 3) sc_finish_receiving.nd rfl (Or.inl rfl) (pe_ifExp (pt_val (pe_kn (ok_is_to_all T) hr (pa_cons (pv 1) pa_nil))) (pe_cn T.c_TO_RECEIVE_TO_ALL) (pe_cn T.c_TO_RECEIVE)))
      (pss_cons (ps_if (pt_not (pt_val (pe_kn (ok_is_allowed T) hr (pa_cons (pv 0) (pa_cons (pv 3) (pa_cons (pv 1) pa_nil)))))) (pss_one (ps_ts T 10 (pv 0) pe_int)) (pss_one (ps_if (pt_not (pt_val (pe_kn (ok_is_busy T) hr (pa_cons (pv 0) pa_nil)))) (pss_cons (ps_asg (pv 2) (pg_sub (pe_tf T 4 (pv 0)) (pe_kn (ok_sub_of T) hr (pa_cons (pv 1) pa_nil)) set_list))
      (pss_one (ps_ts T 5 (pv 0) (pe_op op_mod (pe_op op_add (pe_tf T 5 (pv 0)) pe_int) (pe_cn T.c_COUNTER_SPAN))))) pss_nil)))
      (pss_one (ps_expr (pe_kn (ok_reply T) hr (pa_cons (pv 0) (pa_cons (pv 1) (pa_cons (pe_lst pa_nil) pa_nil)))))))), ?_⟩
  have wr := wf.receive c hl
  unfold finishReceiving at q
  unfold receive whatTo at q wr
  refine ⟨_, rfl, c, rfl, trivial, _, rfl, ?_⟩
  refine ite2 (fun ha => ?_) fun ha => ?_
  · rw [if_pos ha] at q wr
    refine ⟨_, rfl, _, rfl, _, rfl, p, M, A, g, 2, c, rfl, hT, wf, by omega, _, rfl, ?_⟩
    show if (!isAllowed M 2 c) = true then _ else _
    cases hm : isAllowed M 2 c with
    | false =>
      rw [if_pos hm] at q wr
      exact iteT ⟨_, rfl, p, M, A, g, { M with error := 1 }, rfl, hT, ⟨fun _ => rfl, rfl, rfl, rfl, rfl, rfl⟩, fun H1 T1 F1 => ⟨_, rfl, _, rfl, recv_tail T1 wr F1.x q⟩⟩
    | true =>
      rw [if_neg (by rw [hm]; decide)] at q wr
      refine iteF ⟨_, rfl, p, M, A, g, rfl, hT, _, rfl, ?_⟩
      show if (!busy M) = true then _ else _
      cases hb : busy M with
      | true =>
        rw [if_neg (by rw [hb]; decide)] at q wr
        exact iteF ⟨_, rfl, _, rfl, recv_tail hT wr (Frm.refl H g).x q⟩
      | false =>
        rw [if_pos hb] at q wr
        have T1 := hT.setGot (sub_lt c) wf.go hd gd
        refine iteT ⟨_, rfl, _, rfl, p, M, A, g, _, rfl, hT, rfl, _, rfl, c, rfl, trivial, A.go, _, _, subOf c, rfl, rfl, hT.go, ixN_nat (by rw [refs_len]; exact sub_lt c), ?_⟩
        refine ⟨_, rfl, p, _, _, _, _, rfl, T1, rfl, _, _, rfl, rfl, _, _, rfl, rfl, (by show (0 : Int) < 65536; decide), _, rfl, p, _, _, _, { M with got := M.got.set (subOf c) l, messages := (M.messages + 1) % 65536 }, rfl, T1, Sc.cast ⟨fun _ => rfl, rfl, rfl, rfl, rfl, rfl⟩ (cast_mod M.messages 65536), fun H2 T2 F2 => ?_⟩
        refine ⟨_, rfl, _, rfl, recv_tail T2 wr (fun b o n e z => F2 b o ?_ ?_) q⟩
        · rw [upd_ne (ne_tag z hT.ggo (by decide))]
          exact e
        · exact retag_zero n z
  · rw [if_neg ha] at q wr
    refine ⟨_, rfl, _, rfl, _, rfl, p, M, A, g, 0, c, rfl, hT, wf, by omega, _, rfl, ?_⟩
    show if (!isAllowed M 0 c) = true then _ else _
    cases hm : isAllowed M 0 c with
    | false =>
      rw [if_pos hm] at q wr
      exact iteT ⟨_, rfl, p, M, A, g, { M with error := 1 }, rfl, hT, ⟨fun _ => rfl, rfl, rfl, rfl, rfl, rfl⟩, fun H1 T1 F1 => ⟨_, rfl, _, rfl, recv_tail T1 wr F1.x q⟩⟩
    | true =>
      rw [if_neg (by rw [hm]; decide)] at q wr
      refine iteF ⟨_, rfl, p, M, A, g, rfl, hT, _, rfl, ?_⟩
      show if (!busy M) = true then _ else _
      cases hb : busy M with
      | true =>
        rw [if_neg (by rw [hb]; decide)] at q wr
        exact iteF ⟨_, rfl, _, rfl, recv_tail hT wr (Frm.refl H g).x q⟩
      | false =>
        rw [if_pos hb] at q wr
        have T1 := hT.setGot (sub_lt c) wf.go hd gd
        refine iteT ⟨_, rfl, _, rfl, p, M, A, g, _, rfl, hT, rfl, _, rfl, c, rfl, trivial, A.go, _, _, subOf c, rfl, rfl, hT.go, ixN_nat (by rw [refs_len]; exact sub_lt c), ?_⟩
        refine ⟨_, rfl, p, _, _, _, _, rfl, T1, rfl, _, _, rfl, rfl, _, _, rfl, rfl, (by show (0 : Int) < 65536; decide), _, rfl, p, _, _, _, { M with got := M.got.set (subOf c) l, messages := (M.messages + 1) % 65536 }, rfl, T1, Sc.cast ⟨fun _ => rfl, rfl, rfl, rfl, rfl, rfl⟩ (cast_mod M.messages 65536), fun H2 T2 F2 => ?_⟩
        refine ⟨_, rfl, _, rfl, recv_tail T2 wr (fun b o n e z => F2 b o ?_ ?_) q⟩
        · rw [upd_ne (ne_tag z hT.ggo (by decide))]
          exact e
        · exact retag_zero n z

theorem wordsTo_lt {M : Mir} (wf : Wf M) (c : Nat) : ∀ x ∈ wordsTo M c, x < 65536 := fun x hx => by
  unfold wordsTo at hx
  rcases List.mem_append.mp hx with h | h
  · exact (wf.gis _).2 x (List.mem_of_mem_take h)
  · rw [(List.mem_replicate.mp h).2]
    decide
theorem sc_transmit : FnScope ["terminal", "command"] ["terminal", "command"] (defScope (top 85)) := ⟨rfl, rfl, rfl, by decide +kernel, rfl, by decide +kernel, by decide +kernel⟩
theorem ok_transmit (T : Txt K mg C) : Kn P w K mg base 7 "transmit" ["terminal", "command"] (spMC C transmit) := by
  refine T.g_transmit.kn sc_transmit (fun _ _ _ _ _ _ us hl => match us, hl with | [_, _], _ => rfl) spMC_len (fun f cdv A outer s H vs Q E hr h => ?_)
  obtain ⟨p, M, A, g, c, rfl, hT, wf, q⟩ := h
  refine ⟨_, (pss_one (ps_if (pt_val (pe_kn (ok_is_to_all T) hr (pa_cons (pv 1) pa_nil))) (pss_one (ps_expr (pe_kn (ok_count_error T) hr (pa_cons (pv 0) pa_nil)))) (pss_one (ps_if (pt_not (pt_val (pe_kn (ok_is_allowed T) hr (pa_cons (pv 0) (pa_cons (pe_cn T.c_TO_TRANSMIT) (pa_cons (pv 1) pa_nil)))))) (pss_one (ps_expr (pe_kn (ok_reply_error T) hr (pa_cons (pv 0) (pa_cons (pv 1) pa_nil))))) (pss_one (ps_if (pt_val (pe_kn (ok_is_busy T) hr (pa_cons (pv 0) pa_nil))) (pss_one (ps_expr (pe_kn (ok_reply T) hr (pa_cons (pv 0) (pa_cons (pv 1) (pa_cons (pe_lst pa_nil) pa_nil)))))) (pss_one (ps_expr (pe_kn (ok_reply T) hr (pa_cons (pv 0) (pa_cons (pv 1) (pa_cons (pe_kn (ok_words_to_transmit T) hr (pa_cons (pv 0) (pa_cons (pv 1) pa_nil))) pa_nil)))))))))))), ?_⟩
  unfold transmit at q
  refine ⟨_, rfl, c, rfl, trivial, _, rfl, ?_⟩
  refine ite2 (fun h => ?_) fun h => ?_
  · rw [if_pos h] at q
    exact ⟨_, rfl, p, M, A, g, rfl, hT, q⟩
  · rw [if_neg h] at q
    refine ⟨_, rfl, _, rfl, p, M, A, g, 1, c, rfl, hT, wf, by omega, _, rfl, ?_⟩
    show if (!isAllowed M 1 c) = true then _ else _
    cases hm : isAllowed M 1 c with
    | false =>
      rw [if_pos hm] at q
      exact iteT ⟨_, rfl, _, rfl, p, M, A, g, c, rfl, hT, wf, q⟩
    | true =>
      rw [if_neg (by rw [hm]; decide)] at q
      refine iteF ⟨_, rfl, p, M, A, g, rfl, hT, _, rfl, ?_⟩
      refine ite2 (fun hb => ?_) fun hb => ?_
      · rw [if_pos hb] at q
        exact ⟨_, rfl, _, rfl, reply_none hT wf (Frm.refl H g) q⟩
      · rw [if_neg hb] at q
        exact ⟨_, rfl, _, rfl, _, rfl, _, rfl, p, M, A, g, c, rfl, hT, fun H1 a S1 ha h1 => ⟨p, M, A, g, a, c, _, rfl, hT.grow S1, wf, h1, hT.fr a ha, wordsTo_lt wf c, by rw [wordsTo_len]; exact many_le c, q.from (Frm.same g S1)⟩⟩

theorem head_get {l : List Nat} (h : l ≠ []) : l[0]? = some (l.headD 0) := by
  cases l with
  | nil => exact absurd rfl h
  | cons a r => rfl
def spFin (C : Addr) : Sp := fun vs H Q _ => ∃ p M A g, vs = [.ref p] ∧ TermAt C H p M A g ∧ Wf M ∧ M.taken ≠ [] ∧ Post C H g p (finishIfAll M) Q
theorem sc_finish_if_all_there : FnScope ["terminal", "command", "taken"] ["terminal"] (defScope (top 82)) := ⟨rfl, rfl, rfl, by decide +kernel, rfl, by decide +kernel, by decide +kernel⟩
theorem ok_finish_if_all_there (T : Txt K mg C) : Kn P w K mg base 7 "finish_if_all_there" ["terminal"] (spFin C) := by
  refine T.g_finish_if_all_there.kn sc_finish_if_all_there (fun _ _ _ _ _ _ us hl => match us, hl with | [_], _ => rfl) (fun vs H Q E h => ?_) (fun f cdv A outer s H vs Q E hr h => ?_)
  · obtain ⟨p, M, A, g, rfl, _⟩ := h
    rfl
  obtain ⟨p, M, A, g, rfl, hT, wf, ht, q⟩ := h
  refine ⟨_, (pss_cons (ps_set (i := 1) sc_finish_if_all_there.nd rfl (Or.inl rfl) (pe_tf T 16 (pv 0)))
      (pss_cons (ps_set (i := 2) sc_finish_if_all_there.nd rfl (Or.inl rfl) (pe_tf T 19 (pv 0)))
      (pss_one (ps_if (pt_val (pe_kn (ok_is_mode T) hr (pa_cons (pv 1) pa_nil))) (pss_cons (ps_expr (pe_mt0 T.cl (ok_drop_command T) hr (pv 0)))
      (pss_one (ps_expr (pe_kn (ok_finish_taking_mode T) hr (pa_cons (pv 0) (pa_cons (pv 1) (pa_cons (pe_ix ix_list (pv 2) pe_int (fun _ _ => rfl)) pa_nil))))))) (pss_one (ps_if (pt_cmpR op_eq (pe_callB call_len_seq (by rfl) T.b_len PySem.boot_len (pa_cons (pv 2) pa_nil)) (pe_kn (ok_how_many_words T) hr (pa_cons (pv 1) pa_nil)) (nomark _)) (pss_cons (ps_expr (pe_mt0 T.cl (ok_drop_command T) hr (pv 0)))
      (pss_one (ps_expr (pe_kn (ok_finish_receiving T) hr (pa_cons (pv 0) (pa_cons (pv 1) (pa_cons (pv 2) pa_nil))))))) pss_nil)))))), ?_⟩
  unfold finishIfAll at q
  refine ⟨_, rfl, p, M, A, g, _, rfl, hT, rfl, _, rfl, p, M, A, g, _, rfl, hT, rfl, _, rfl, M.command, rfl, trivial, fun H1 S1 => ⟨_, rfl, ?_⟩⟩
  have T1 := hT.grow S1
  have F1 := Frm.same g S1
  refine ite2 (fun h => ?_) fun h => ?_
  · rw [if_pos h] at q
    refine ⟨_, rfl, p, A.dx, _, rfl, T1.ins, no_drop _, p, M, A, g, rfl, T1, fun H2 A2 g2 T2 F2 h2 _ => ?_⟩
    exact ⟨_, rfl, _, rfl, _, rfl, A.ta, _, _, _, rfl, rfl, SqL.of h2, atI_nat (j := 0) (nums_get (head_get ht)), p, _, A2, g2, M.command, _, rfl, T2, wf.drop, q.from (F1.trans F2)⟩
  · rw [if_neg h] at q
    refine ⟨_, rfl, A.ta, _, rfl, .inl (SqL.of T1.ta), _, rfl, M.command, rfl, trivial, rfl, _, rfl, ?_⟩
    have e : decide (V.int ((nums M.taken).length : Int) = V.int (many M.command : Int)) = decide (M.taken.length = many M.command) := by rw [nums_len]; exact dec_nat _ _
    show if decide (V.int ((nums M.taken).length : Int) = V.int (many M.command : Int)) = true then _ else _
    rw [e]
    refine ite2 (fun h => ?_) fun h => ?_
    · rw [if_pos (of_decide_eq_true h)] at q
      refine ⟨_, rfl, p, A.dx, _, rfl, T1.ins, no_drop _, p, M, A, g, rfl, T1, fun H2 A2 g2 T2 F2 h2 g0 => ?_⟩
      refine ⟨_, rfl, _, rfl, _, rfl, p, _, A2, g2, A.ta, M.command, M.taken, rfl, T2, wf.drop, h2, g0, wf.tk, fun H3 A3 g3 T3 F3 => ?_⟩
      exact q H3 A3 g3 T3 fun b o e z => F3 b o (ne_tag z hT.gta (by decide)) ((F1.trans F2) b o e z).1 ((F1.trans F2) b o e z).2
    · rw [if_neg (fun z => h (decide_eq_true z))] at q
      exact q H1 A g T1 F1

/-- a terminal, a word and a time in -/
def spMWN (C : Addr) (pre : Mir → Nat → Nat → Prop) (f : Mir → Nat → Nat → Mir) : Sp := fun vs H Q _ => ∃ p M A g, ∃ v now : Nat, vs = [.ref p, .int v, .int now] ∧ TermAt C H p M A g ∧ Wf M ∧ pre M v now ∧ Post C H g p (f M v now) Q
theorem spMWN_len {pre : Mir → Nat → Nat → Prop} {f : Mir → Nat → Nat → Mir} {x y z : Str} : ∀ vs H Q E, spMWN C pre f vs H Q E → vs.length = [x, y, z].length := fun vs H Q E h => by
  obtain ⟨p, M, A, g, v, now, rfl, _⟩ := h
  rfl
theorem sc_hear_data : FnScope ["terminal", "word", "now"] ["terminal", "word", "now"] (defScope (top 80)) := ⟨rfl, rfl, rfl, by decide +kernel, rfl, by decide +kernel, by decide +kernel⟩
theorem ok_hear_data (T : Txt K mg C) : Kn P w K mg base 8 "hear_data" ["terminal", "word", "now"] (spMWN C (fun M _ now => M.taken.length < 32 ∧ now < 4294967296) hearData) := by
  refine T.g_hear_data.kn sc_hear_data (fun _ _ _ _ _ _ us hl => match us, hl with | [_, _, _], _ => rfl) spMWN_len (fun f cdv A outer s H vs Q E hr h => ?_)
  obtain ⟨p, M, A, g, v, now, rfl, hT, wf, ⟨hk, hn⟩, q⟩ := h
  refine ⟨_, (pss_one (ps_if (pt_cmpR op_eq (pe_tf T 15 (pv 0)) (pe_cn T.c_SENDER_STATUS) (nomark _)) (pss_one (ps_expr (pe_kn (ok_fail T) hr (pa_cons (pv 0) pa_nil)))) (pss_cons (ps_expr (pe_bm PySem.F.plainAttrs_list PySem.F.slot_list_append PySem.F.type_list_append mt_append (pe_tf T 19 (pv 0)) (pa_cons (pv 1) pa_nil)))
      (pss_cons (ps_ts T 15 (pv 0) (pe_cn T.c_DATA_WORD))
      (pss_cons (ps_ts T 17 (pv 0) (pv 2))
      (pss_one (ps_expr (pe_kn (ok_finish_if_all_there T) hr (pa_cons (pv 0) pa_nil))))))))), ?_⟩
  unfold hearData at q
  refine ⟨_, rfl, p, M, A, g, _, rfl, hT, rfl, rfl, _, rfl, ?_⟩
  show if decide (V.int (M.awaited : Int) = V.int ((2 : Nat) : Int)) = true then _ else _
  rw [dec_nat]
  refine ite2 (fun h => ?_) fun h => ?_
  · rw [if_pos (of_decide_eq_true h)] at q
    exact ⟨_, rfl, p, M, A, g, rfl, hT, q⟩
  · rw [if_neg (fun z => h (decide_eq_true z))] at q
    have T1 : TermAt C (upd H A.ta (.lst (nums M.taken ++ [V.int (v : Int)]))) p { M with taken := M.taken ++ [v] } A g := by
      rw [nums_app]
      exact hT.takeOne v
    have F1 : Frm H g (upd H A.ta (.lst (nums M.taken ++ [V.int (v : Int)]))) g := hT.frm (by rw [hT.gta]; decide)
    refine ⟨_, rfl, p, M, A, g, _, rfl, hT, rfl, .inl ⟨rfl, _, SqL.of hT.ta⟩, _, rfl, A.ta, _, _, rfl, rfl, hT.ta, by rw [nums_len]; exact Nat.lt_of_lt_of_le hk (by decide), ?_⟩
    refine ⟨_, rfl, p, _, A, g, { M with taken := M.taken ++ [v], awaited := 3 }, rfl, T1, ⟨fun _ => rfl, rfl, rfl, rfl, rfl, rfl⟩, fun H2 T2 F2 => ?_⟩
    refine ⟨_, rfl, _, rfl, p, _, A, g, { M with taken := M.taken ++ [v], awaited := 3, heardAt := now }, rfl, T2, ⟨fun _ => rfl, rfl, rfl, rfl, rfl, rfl⟩, fun H3 T3 F3 => ?_⟩
    refine ⟨_, rfl, p, _, A, g, rfl, T3, { wf with ha := hn, tk := ?_ }, ?_, q.from ((F1.trans F2).trans F3)⟩
    · show (M.taken ++ [v]).length ≤ 32
      rw [List.length_append]
      exact hk
    · show M.taken ++ [v] ≠ []
      simp

theorem sc_hear_another_terminal : FnScope ["terminal", "word", "now"] ["terminal", "word", "now"] (defScope (top 81)) := ⟨rfl, rfl, rfl, by decide +kernel, rfl, by decide +kernel, by decide +kernel⟩
theorem ok_hear_another_terminal (T : Txt K mg C) : Kn P w K mg base 3 "hear_another_terminal" ["terminal", "word", "now"] (spMWN C (fun _ _ _ => True) hearOther) := by
  refine T.g_hear_another_terminal.kn sc_hear_another_terminal (fun _ _ _ _ _ _ us hl => match us, hl with | [_, _, _], _ => rfl) spMWN_len (fun f cdv A outer s H vs Q E hr h => ?_)
  obtain ⟨p, M, A, g, v, now, rfl, hT, wf, _, q⟩ := h
  refine ⟨_, (pss_one (ps_if (PW.pt (pw_and (pt_cmpR op_eq (pe_tf T 15 (pv 0)) (pe_cn T.c_FIRST_WORD) (nomark _)) (pw_and1 (pt_val (pe_kn (ok_is_to_transmit T) hr (pa_cons (pv 1) pa_nil)))))) (pss_cons (ps_ts T 18 (pv 0) (pe_kn (ok_address_of T) hr (pa_cons (pv 1) pa_nil)))
      (pss_cons (ps_ts T 15 (pv 0) (pe_cn T.c_SENDER_STATUS))
      (pss_one (ps_ts T 17 (pv 0) (pv 2))))) (pss_one (ps_if (PW.pt (pw_and (pt_cmpR op_eq (pe_tf T 15 (pv 0)) (pe_cn T.c_SENDER_STATUS) (nomark _)) (pw_and1 (pt_cmpR op_eq (pe_kn (ok_address_of T) hr (pa_cons (pv 1) pa_nil)) (pe_tf T 18 (pv 0)) (nomark _))))) (pss_cons (ps_ts T 15 (pv 0) (pe_cn T.c_DATA_WORD))
      (pss_one (ps_ts T 17 (pv 0) (pv 2)))) (pss_one (ps_expr (pe_kn (ok_fail T) hr (pa_cons (pv 0) pa_nil)))))))), ?_⟩
  unfold hearOther at q
  have e1 : decide (V.int (M.awaited : Int) = V.int ((1 : Nat) : Int)) = decide (M.awaited = 1) := dec_nat _ _
  have e2 : decide (V.int (M.awaited : Int) = V.int ((2 : Nat) : Int)) = decide (M.awaited = 2) := dec_nat _ _
  have e3 : decide (V.int (toOf v : Int) = V.int (M.sender : Int)) = decide (toOf v = M.sender) := dec_nat _ _
  refine ⟨_, rfl, p, M, A, g, _, rfl, hT, rfl, rfl, _, rfl, ?_⟩
  show if decide (V.int (M.awaited : Int) = V.int ((1 : Nat) : Int)) = true then _ else _
  rw [e1]
  refine ite2 (fun h1 => ?_) fun h1 => ?_
  · have h1 := of_decide_eq_true h1
    refine ⟨_, rfl, v, rfl, trivial, _, rfl, ?_⟩
    refine ite2 (fun hs => ?_) fun hs => ?_
    · rw [if_pos ⟨h1, hs⟩] at q
      refine ⟨_, rfl, v, rfl, trivial, _, rfl, p, M, A, g, { M with sender := toOf v }, rfl, hT, ⟨fun _ => rfl, rfl, rfl, rfl, rfl, rfl⟩, fun H1 T1 F1 => ?_⟩
      refine ⟨_, rfl, p, _, A, g, { M with sender := toOf v, awaited := 2 }, rfl, T1, ⟨fun _ => rfl, rfl, rfl, rfl, rfl, rfl⟩, fun H2 T2 F2 => ?_⟩
      exact ⟨_, rfl, _, rfl, p, _, A, g, { M with sender := toOf v, awaited := 2, heardAt := now }, rfl, T2, ⟨fun _ => rfl, rfl, rfl, rfl, rfl, rfl⟩, fun H3 T3 F3 => q H3 A g T3 ((F1.trans F2).trans F3)⟩
    · rw [if_neg (fun z => hs z.2), if_neg (fun z => by omega)] at q
      refine ⟨_, rfl, p, M, A, g, _, rfl, hT, rfl, rfl, _, rfl, ?_⟩
      show if decide (V.int (M.awaited : Int) = V.int ((2 : Nat) : Int)) = true then _ else _
      rw [e2, h1]
      exact iteF (iteF ⟨_, rfl, p, M, A, g, rfl, hT, q⟩)
  · rw [if_neg (fun z => h1 (decide_eq_true z.1))] at q
    refine iteF ⟨_, rfl, p, M, A, g, _, rfl, hT, rfl, rfl, _, rfl, ?_⟩
    show if decide (V.int (M.awaited : Int) = V.int ((2 : Nat) : Int)) = true then _ else _
    rw [e2]
    refine ite2 (fun h2 => ?_) fun h2 => ?_
    · have h2 := of_decide_eq_true h2
      refine ⟨_, rfl, v, rfl, trivial, _, rfl, p, M, A, g, _, rfl, hT, rfl, rfl, _, rfl, ?_⟩
      show if decide (V.int (toOf v : Int) = V.int (M.sender : Int)) = true then _ else _
      rw [e3]
      refine ite2 (fun h3 => ?_) fun h3 => ?_
      · rw [if_pos ⟨h2, of_decide_eq_true h3⟩] at q
        refine ⟨_, rfl, p, M, A, g, { M with awaited := 3 }, rfl, hT, ⟨fun _ => rfl, rfl, rfl, rfl, rfl, rfl⟩, fun H1 T1 F1 => ?_⟩
        exact ⟨_, rfl, _, rfl, p, _, A, g, { M with awaited := 3, heardAt := now }, rfl, T1, ⟨fun _ => rfl, rfl, rfl, rfl, rfl, rfl⟩, fun H2 T2 F2 => q H2 A g T2 (F1.trans F2)⟩
      · rw [if_neg (fun z => h3 (decide_eq_true z.2))] at q
        exact ⟨_, rfl, p, M, A, g, rfl, hT, q⟩
    · rw [if_neg (fun z => h2 (decide_eq_true z.1))] at q
      exact iteF ⟨_, rfl, p, M, A, g, rfl, hT, q⟩
end
end Bt
end
section
set_option Elab.async false
set_option linter.all false
set_option maxRecDepth 100000
set_option maxHeartbeats 4000000
/-! The defs of commands.py, the last ones. -/
namespace Bt
open PySem PySem.Spec PyProof.Rows L2
open Sa67 (toOf sends subOf countOf many mode onWire gone)
section
variable {P : Program} {w : World} {K : PySem.W.Frag} {mg : Str → Option Value} {base : Heap} {C : Addr}
/-- a terminal, a sync, a word, whether it is good, a time -/
def spWd (C : Addr) (pre : Mir → Nat → Nat → Prop) (f : Mir → Nat → Nat → Bool → Nat → Mir) : Sp := fun vs H Q _ => ∃ p M A g, ∃ (y v : Nat) (good : Bool) (now : Nat), vs = [.ref p, .int y, .int v, .bl good, .int now] ∧ TermAt C H p M A g ∧ Wf M ∧ pre M v now ∧ Post C H g p (f M y v good now) Q
theorem spWd_len {pre : Mir → Nat → Nat → Prop} {f : Mir → Nat → Nat → Bool → Nat → Mir} {a b c d e : Str} : ∀ vs H Q E, spWd C pre f vs H Q E → vs.length = [a, b, c, d, e].length := fun vs H Q E h => by
  obtain ⟨p, M, A, g, y, v, good, now, rfl, _⟩ := h
  rfl
theorem sc_hear_awaited : FnScope ["terminal", "sync", "word", "is_good", "now"] ["terminal", "sync", "word", "is_good", "now"] (defScope (top 79)) := ⟨rfl, rfl, rfl, by decide +kernel, rfl, by decide +kernel, by decide +kernel⟩
theorem ok_hear_awaited (T : Txt K mg C) : Kn P w K mg base 9 "hear_awaited" ["terminal", "sync", "word", "is_good", "now"] (spWd C (fun M _ now => M.taken.length < 32 ∧ now < 4294967296) hearAwaited) := by
  refine T.g_hear_awaited.kn sc_hear_awaited (fun _ _ _ _ _ _ us hl => match us, hl with | [_, _, _, _, _], _ => rfl) spWd_len (fun f cdv A outer s H vs Q E hr h => ?_)
  obtain ⟨p, M, A, g, y, v, good, now, rfl, hT, wf, ⟨hk, hn⟩, q⟩ := h
  refine ⟨_, (pss_one (ps_if (PW.pt (pw_or (pt_not (pt_val (pv 3))) (pw_or1 (pt_cmpR op_lt (pe_kn (ok_time_between T) hr (pa_cons (pe_tf T 17 (pv 0)) (pa_cons (pv 4) pa_nil))) (pe_cn T.c_SHORTEST_GAP) (nomark _))))) (pss_one (ps_expr (pe_kn (ok_fail T) hr (pa_cons (pv 0) pa_nil)))) (pss_one (ps_if (pt_cmpR op_eq (pv 1) (pe_cn T.c_DATA_SYNC) (nomark _)) (pss_one (ps_expr (pe_kn (ok_hear_data T) hr (pa_cons (pv 0) (pa_cons (pv 2) (pa_cons (pv 4) pa_nil)))))) (pss_one (ps_expr (pe_kn (ok_hear_another_terminal T) hr (pa_cons (pv 0) (pa_cons (pv 2) (pa_cons (pv 4) pa_nil)))))))))), ?_⟩
  unfold hearAwaited at q
  refine ⟨_, rfl, _, rfl, ?_⟩
  show if (!good) = true then _ else _
  cases hg : good with
  | false =>
    rw [if_pos (.inl hg)] at q
    exact iteT (iteT ⟨_, rfl, p, M, A, g, rfl, hT, q⟩)
  | true =>
    refine iteF ⟨_, rfl, p, M, A, g, _, rfl, hT, rfl, _, rfl, M.heardAt, now, rfl, wf.ha, _, _, rfl, rfl, _, rfl, ?_⟩
    refine ite2 (fun h => ?_) fun h => ?_
    · have h : (gone M.heardAt now : Int) < 20 := of_decide_eq_true h
      rw [if_pos (.inr (by omega))] at q
      exact ⟨_, rfl, p, M, A, g, rfl, hT, q⟩
    · have h : ¬ (gone M.heardAt now : Int) < 20 := fun z => h (decide_eq_true z)
      rw [if_neg (fun z => by
        rcases z with z | z
        · rw [hg] at z
          cases z
        · omega)] at q
      refine ⟨_, rfl, rfl, _, rfl, ?_⟩
      show if decide (V.int (y : Int) = V.int ((1 : Nat) : Int)) = true then _ else _
      rw [dec_nat]
      refine ite2 (fun h1 => ?_) fun h1 => ?_
      · rw [if_pos (of_decide_eq_true h1)] at q
        exact ⟨_, rfl, _, rfl, _, rfl, p, M, A, g, v, now, rfl, hT, wf, ⟨hk, hn⟩, q⟩
      · rw [if_neg (fun z => h1 (decide_eq_true z))] at q
        exact ⟨_, rfl, _, rfl, _, rfl, p, M, A, g, v, now, rfl, hT, wf, trivial, q⟩

theorem noted_if (M : Mir) (c : Nat) : (if (!asksBefore c) = true then ({ M with lastCommand := c, error := 0, toAll := if Sa67.toAll c = true then 1 else 0 } : Mir) else M) = noted M c := by
  unfold noted
  cases asksBefore c <;> rfl
theorem sc_begin_command : FnScope ["terminal", "command", "now"] ["terminal", "command", "now"] (defScope (top 77)) := ⟨rfl, rfl, rfl, by decide +kernel, rfl, by decide +kernel, by decide +kernel⟩
theorem ok_begin_command (T : Txt K mg C) : Kn P w K mg base 9 "begin_command" ["terminal", "command", "now"] (spMWN C (fun _ c _ => c < 65536) beginCommand) := by
  refine T.g_begin_command.kn sc_begin_command (fun _ _ _ _ _ _ us hl => match us, hl with | [_, _, _], _ => rfl) spMWN_len (fun f cdv A outer s H vs Q E hr h => ?_)
  obtain ⟨p, M, A, g, c, now, rfl, hT, wf, hc, q⟩ := h
  refine ⟨_, (pss_cons (ps_expr (pe_mt0 T.cl (ok_drop_command T) hr (pv 0)))
      (pss_cons (ps_if (pt_not (pt_val (pe_kn (ok_asks_what_was_before T) hr (pa_cons (pv 1) pa_nil)))) (pss_cons (ps_ts T 7 (pv 0) (pv 1))
      (pss_cons (ps_ts T 10 (pv 0) pe_int)
      (pss_one (ps_ts T 11 (pv 0) (pe_ifExp (pt_val (pe_kn (ok_is_to_all T) hr (pa_cons (pv 1) pa_nil))) pe_int pe_int))))) pss_nil)
      (pss_one (ps_if (PW.pt (pw_and (pt_val (pe_kn (ok_is_mode T) hr (pa_cons (pv 1) pa_nil))) (pw_and1 (pt_val (pe_kn (ok_takes_a_word T) hr (pa_cons (pv 1) pa_nil)))))) (pss_one (ps_expr (pe_kn (ok_await_words T) hr (pa_cons (pv 0) (pa_cons (pv 1) (pa_cons (pe_cn T.c_DATA_WORD) (pa_cons (pv 2) pa_nil))))))) (pss_one (ps_if (pt_val (pe_kn (ok_is_mode T) hr (pa_cons (pv 1) pa_nil))) (pss_one (ps_expr (pe_kn (ok_do_mode T) hr (pa_cons (pv 0) (pa_cons (pv 1) pa_nil))))) (pss_one (ps_if (pt_val (pe_kn (ok_is_to_transmit T) hr (pa_cons (pv 1) pa_nil))) (pss_one (ps_expr (pe_kn (ok_transmit T) hr (pa_cons (pv 0) (pa_cons (pv 1) pa_nil))))) (pss_one (ps_expr (pe_kn (ok_await_words T) hr (pa_cons (pv 0) (pa_cons (pv 1) (pa_cons (pe_cn T.c_FIRST_WORD) (pa_cons (pv 2) pa_nil))))))))))))))), ?_⟩
  unfold beginCommand at q
  dsimp only at q
  have w1 := wf.drop.noted hc
  refine ⟨_, rfl, p, A.dx, _, rfl, hT.ins, no_drop _, p, M, A, g, rfl, hT, fun H1 A1 g1 T1 F1 _ _ => ?_⟩
  refine ⟨_, rfl, c, rfl, trivial, fun H2 S2 => ⟨_, rfl, ?_⟩⟩
  have T2 := T1.grow S2
  have F2 := F1.trans (Frm.same g1 S2)
  refine ite_upd (b := !asksBefore c) (G := fun M' H' => TermAt C H' p M' A1 g1 ∧ Frm H g H' g1) (M1 := { drop M with lastCommand := c, error := 0, toAll := if Sa67.toAll c = true then 1 else 0 }) (M2 := drop M) (fun r => ?_) ⟨T2, F2⟩ ?_
  · refine ⟨_, rfl, _, rfl, p, _, A1, g1, { drop M with lastCommand := c }, rfl, T2, ⟨fun _ => rfl, rfl, rfl, rfl, rfl, rfl⟩, fun H3 T3 F3 => ?_⟩
    refine ⟨_, rfl, p, _, A1, g1, { drop M with lastCommand := c, error := 0 }, rfl, T3, ⟨fun _ => rfl, rfl, rfl, rfl, rfl, rfl⟩, fun H4 T4 F4 => ?_⟩
    refine ⟨_, rfl, c, rfl, trivial, _, rfl, ?_⟩
    refine ite2 (fun h => ?_) fun h => ?_
    · rw [if_pos h] at r
      exact ⟨_, rfl, p, _, A1, g1, { drop M with lastCommand := c, error := 0, toAll := 1 }, rfl, T4, ⟨fun _ => rfl, rfl, rfl, rfl, rfl, rfl⟩, fun H5 T5 F5 => r H5 ⟨T5, ((F2.trans F3).trans F4).trans F5⟩⟩
    · rw [if_neg h] at r
      exact ⟨_, rfl, p, _, A1, g1, { drop M with lastCommand := c, error := 0, toAll := 0 }, rfl, T4, ⟨fun _ => rfl, rfl, rfl, rfl, rfl, rfl⟩, fun H5 T5 F5 => r H5 ⟨T5, ((F2.trans F3).trans F4).trans F5⟩⟩
  rw [noted_if]
  generalize noted (drop M) c = M1 at q w1 ⊢
  rintro H3 ⟨T3, F3⟩
  refine ⟨_, rfl, c, rfl, trivial, fun H4 S4 => ⟨_, rfl, ?_⟩⟩
  have T4 := T3.grow S4
  have F4 := F3.trans (Frm.same g1 S4)
  refine ite2 (fun hm => ?_) fun hm => ?_
  · rw [hm, Bool.true_and] at q
    refine ⟨_, rfl, c, rfl, trivial, fun H5 S5 => ⟨_, rfl, ?_⟩⟩
    have T5 := T4.grow S5
    have F5 := F4.trans (Frm.same g1 S5)
    refine ite2 (fun ht => ?_) fun ht => ?_
    · rw [if_pos ht] at q
      exact ⟨_, rfl, _, rfl, _, rfl, p, M1, A1, g1, c, 3, now, rfl, T5, q.from F5⟩
    · rw [if_neg ht, if_pos rfl] at q
      refine ⟨_, rfl, c, rfl, trivial, fun H6 S6 => ⟨_, rfl, ?_⟩⟩
      show if mode c = true then _ else _
      rw [hm]
      exact iteT ⟨_, rfl, _, rfl, p, M1, A1, g1, c, rfl, T5.grow S6, w1, q.from (F5.trans (Frm.same g1 S6))⟩
  · rw [Bool.eq_false_iff.mpr hm, Bool.false_and, if_neg Bool.false_ne_true, if_neg Bool.false_ne_true] at q
    refine iteF ⟨_, rfl, c, rfl, trivial, fun H5 S5 => ⟨_, rfl, ?_⟩⟩
    have T5 := T4.grow S5
    have F5 := F4.trans (Frm.same g1 S5)
    show if mode c = true then _ else _
    rw [Bool.eq_false_iff.mpr hm]
    refine iteF ⟨_, rfl, c, rfl, trivial, _, rfl, ?_⟩
    refine ite2 (fun hs => ?_) fun hs => ?_
    · rw [if_pos hs] at q
      exact ⟨_, rfl, _, rfl, p, M1, A1, g1, c, rfl, T5, w1, q.from F5⟩
    · rw [if_neg hs] at q
      exact ⟨_, rfl, _, rfl, _, rfl, p, M1, A1, g1, c, 1, now, rfl, T5, q.from F5⟩

theorem sc_hear : FnScope ["terminal", "sync", "word", "is_good", "now"] ["terminal", "sync", "word", "is_good", "now"] (defScope (top 72)) := ⟨rfl, rfl, rfl, by decide +kernel, rfl, by decide +kernel, by decide +kernel⟩
theorem ok_hear (T : Txt K mg C) : Kn P w K mg base 10 "hear" ["terminal", "sync", "word", "is_good", "now"] (spWd C (fun M v now => Ph M ∧ v < 65536 ∧ now < 4294967296) hear) := by
  refine T.g_hear.kn sc_hear (fun _ _ _ _ _ _ us hl => match us, hl with | [_, _, _, _, _], _ => rfl) spWd_len (fun f cdv A outer s H vs Q E hr h => ?_)
  obtain ⟨p, M, A, g, y, v, good, now, rfl, hT, wf, ⟨ph, hv, hn⟩, q⟩ := h
  refine ⟨_, (pss_cons (ps_expr (pe_kn (ok_notice_silence T) hr (pa_cons (pv 0) (pa_cons (pv 4) pa_nil))))
      (pss_one (ps_if (PW.pt (pw_and (pt_val (pv 3)) (pw_and (pt_cmpR op_eq (pv 1) (pe_cn T.c_COMMAND_SYNC) (nomark _)) (pw_and1 (pt_val (pe_kn (ok_is_for T) hr (pa_cons (pv 0) (pa_cons (pv 2) pa_nil)))))))) (pss_one (ps_expr (pe_kn (ok_begin_command T) hr (pa_cons (pv 0) (pa_cons (pv 2) (pa_cons (pv 4) pa_nil)))))) (pss_one (ps_if (pt_cmpR op_ne (pe_tf T 15 (pv 0)) (pe_cn T.c_NOTHING) (nomark _)) (pss_one (ps_expr (pe_kn (ok_hear_awaited T) hr (pa_cons (pv 0) (pa_cons (pv 1) (pa_cons (pv 2) (pa_cons (pv 3) (pa_cons (pv 4) pa_nil)))))))) pss_nil))))), ?_⟩
  unfold hear at q
  dsimp only at q
  have w1 := wf.silence now
  have hk := (ph.silence now).short
  refine ⟨_, rfl, _, rfl, p, M, A, g, now, rfl, hT, wf, fun H1 A1 g1 T1 F1 => ?_⟩
  generalize silence M now = M1 at q w1 hk T1 ⊢
  have e0 : decide (V.int (M1.awaited : Int) = V.int ((0 : Nat) : Int)) = decide (M1.awaited = 0) := dec_nat _ _
  have q1 := q.from F1
  refine ⟨_, rfl, _, rfl, ?_⟩
  refine ite2 (fun hg => ?_) fun hg => ?_
  · refine ⟨_, rfl, rfl, _, rfl, ?_⟩
    show if decide (V.int (y : Int) = V.int ((0 : Nat) : Int)) = true then _ else _
    rw [dec_nat]
    refine ite2 (fun hy => ?_) fun hy => ?_
    · have hy := of_decide_eq_true hy
      refine ⟨_, rfl, _, rfl, p, M1, A1, g1, v, rfl, T1, _, rfl, ?_⟩
      refine ite2 (fun hf => ?_) fun hf => ?_
      · rw [if_pos ⟨hg, hy, hf⟩] at q1
        exact ⟨_, rfl, _, rfl, _, rfl, p, M1, A1, g1, v, now, rfl, T1, w1, hv, q1⟩
      · rw [if_neg (fun z => hf z.2.2)] at q1
        refine ⟨_, rfl, p, M1, A1, g1, _, rfl, T1, rfl, rfl, _, rfl, ?_⟩
        show if (!decide (V.int (M1.awaited : Int) = V.int ((0 : Nat) : Int))) = true then _ else _
        rw [e0]
        cases ha : decide (M1.awaited = 0) with
        | true =>
          rw [if_neg (fun z => z (of_decide_eq_true ha))] at q1
          exact iteF (q1 H1 A1 g1 T1 (Frm.refl H1 g1))
        | false =>
          rw [if_pos (of_decide_eq_false ha)] at q1
          exact iteT ⟨_, rfl, _, rfl, _, rfl, _, rfl, _, rfl, p, M1, A1, g1, y, v, good, now, rfl, T1, w1, ⟨hk, hn⟩, q1⟩
    · rw [if_neg (fun z => hy (decide_eq_true z.2.1))] at q1
      refine iteF ⟨_, rfl, p, M1, A1, g1, _, rfl, T1, rfl, rfl, _, rfl, ?_⟩
      show if (!decide (V.int (M1.awaited : Int) = V.int ((0 : Nat) : Int))) = true then _ else _
      rw [e0]
      cases ha : decide (M1.awaited = 0) with
      | true =>
        rw [if_neg (fun z => z (of_decide_eq_true ha))] at q1
        exact iteF (q1 H1 A1 g1 T1 (Frm.refl H1 g1))
      | false =>
        rw [if_pos (of_decide_eq_false ha)] at q1
        exact iteT ⟨_, rfl, _, rfl, _, rfl, _, rfl, _, rfl, p, M1, A1, g1, y, v, good, now, rfl, T1, w1, ⟨hk, hn⟩, q1⟩
  · rw [if_neg (fun z => hg z.1)] at q1
    refine iteF ⟨_, rfl, p, M1, A1, g1, _, rfl, T1, rfl, rfl, _, rfl, ?_⟩
    show if (!decide (V.int (M1.awaited : Int) = V.int ((0 : Nat) : Int))) = true then _ else _
    rw [e0]
    cases ha : decide (M1.awaited = 0) with
    | true =>
      rw [if_neg (fun z => z (of_decide_eq_true ha))] at q1
      exact iteF (q1 H1 A1 g1 T1 (Frm.refl H1 g1))
    | false =>
      rw [if_pos (of_decide_eq_false ha)] at q1
      exact iteT ⟨_, rfl, _, rfl, _, rfl, _, rfl, _, rfl, p, M1, A1, g1, y, v, good, now, rfl, T1, w1, ⟨hk, hn⟩, q1⟩
end
end Bt
end
section
set_option Elab.async false
set_option linter.all false
set_option maxRecDepth 100000
set_option maxHeartbeats 4000000
/-! The defs of terminal.py, but for the line's loop. -/
namespace Bt
open PySem PySem.Spec PyProof.Rows L2
open Sa67 (toOf sends subOf countOf many mode onWire gone)
section
variable {P : Program} {w : World} {K : PySem.W.Frag} {mg : Str → Option Value} {base : Heap} {C : Addr}
theorem nums_ints (l : List Nat) : (intsOf l).map V.int = nums l := by
  unfold intsOf nums
  rw [List.map_map]
  rfl
/-- a list of numbers is answered, which is new; the terminal is M' -/
def Ans (C : Addr) (H : Hp) (g : Addr → Nat) (p : Addr) (M' : Mir) (l : List Int) (Q : VK) : Prop := ∀ H' A' g' a, TermAt C H' p M' A' g' → Frm H g H' g' → H' a = some (.lst (l.map V.int)) → (∀ b o, H b = some o → g b = 0 → b ≠ a) → Q (.ref a) H'
def AnsX (C d : Addr) (H : Hp) (g : Addr → Nat) (p : Addr) (M' : Mir) (l : List Int) (Q : VK) : Prop := ∀ H' A' g' a, TermAt C H' p M' A' g' → FrmX d H g H' g' → H' a = some (.lst (l.map V.int)) → (∀ b o, b ≠ d → H b = some o → g b = 0 → b ≠ a) → Q (.ref a) H'
def spNew (l : List Int) : Sp := fun vs H Q _ => vs = [] ∧ ∀ a, H a = none → Q (.ref a) (upd H a (.lst (l.map V.int)))
theorem Ans.new {H H1 : Hp} {g g1 : Addr → Nat} {p : Addr} {M : Mir} {A1 : Ad} {l : List Int} {Q : VK} (q : Ans C H g p M l Q) (T1 : TermAt C H1 p M A1 g1) (F1 : Frm H g H1 g1) : spNew l [] H1 Q E0 :=
  ⟨rfl, fun a ha => q _ A1 g1 a (T1.grow (same_new ha)) (F1.trans (Frm.same g1 (same_new ha))) upd_same fun b o e z => ne_of_none (F1 b o e z).1 ha⟩
theorem AnsX.new {d : Addr} {H H1 : Hp} {g g1 : Addr → Nat} {p : Addr} {M : Mir} {A1 : Ad} {l : List Int} {Q : VK} (q : AnsX C d H g p M l Q) (T1 : TermAt C H1 p M A1 g1) (F1 : FrmX d H g H1 g1) : spNew l [] H1 Q E0 :=
  ⟨rfl, fun a ha => q _ A1 g1 a (T1.grow (same_new ha)) (F1.trans (Frm.same g1 (same_new ha))) upd_same fun b o n e z => ne_of_none (F1 b o n e z).1 ha⟩
theorem sc_done : FnScope [] [] (defScope (top 106)) := ⟨rfl, rfl, rfl, by decide +kernel, rfl, by decide +kernel, by decide +kernel⟩
theorem ok_done (T : Txt K mg C) : Kn P w K mg base 1 "done" [] (spNew [0]) := by
  refine T.g_done.kn sc_done (fun _ _ _ _ _ _ us hl => match us, hl with | [], _ => rfl) (fun vs H Q E h => ?_) (fun f cdv A outer s H vs Q E hr h => ?_)
  · obtain ⟨rfl, _⟩ := h
    rfl
  obtain ⟨rfl, q⟩ := h
  refine ⟨_, (pss_one (ps_ret (pe_lst (pa_cons pe_int pa_nil)))), ?_⟩
  exact ⟨(by show 1 ≤ sizeLine; decide), fun a ha => q a ha⟩
theorem sc_refusal : FnScope [] [] (defScope (top 107)) := ⟨rfl, rfl, rfl, by decide +kernel, rfl, by decide +kernel, by decide +kernel⟩
theorem ok_refusal (T : Txt K mg C) : Kn P w K mg base 1 "refusal" [] (spNew [-2]) := by
  refine T.g_refusal.kn sc_refusal (fun _ _ _ _ _ _ us hl => match us, hl with | [], _ => rfl) (fun vs H Q E h => ?_) (fun f cdv A outer s H vs Q E hr h => ?_)
  · obtain ⟨rfl, _⟩ := h
    rfl
  obtain ⟨rfl, q⟩ := h
  refine ⟨_, (pss_one (ps_ret (pe_lst (pa_cons (pe_un un_neg pe_int) pa_nil)))), ?_⟩
  exact ⟨_, rfl, (by show 1 ≤ sizeLine; decide), fun a ha => q a ha⟩
def spCounted : Sp := fun vs H Q _ => ∃ (d : Addr) (l : List Nat), vs = [.ref d] ∧ H d = some (.lst (nums l)) ∧ l.length ≤ 40 ∧ ∀ H' a, Same H H' → H a = none → H' a = some (.lst (((l.length : Int) :: intsOf l).map V.int)) → Q (.ref a) H'
theorem sc_counted : FnScope ["words"] ["words"] (defScope (top 108)) := ⟨rfl, rfl, rfl, by decide +kernel, rfl, by decide +kernel, by decide +kernel⟩
theorem ok_counted (T : Txt K mg C) : Kn P w K mg base 1 "counted" ["words"] spCounted := by
  refine T.g_counted.kn sc_counted (fun _ _ _ _ _ _ us hl => match us, hl with | [_], _ => rfl) (fun vs H Q E h => ?_) (fun f cdv A outer s H vs Q E hr h => ?_)
  · obtain ⟨d, l, rfl, _⟩ := h
    rfl
  obtain ⟨d, l, rfl, hd, hl, q⟩ := h
  refine ⟨_, (pss_one (ps_ret (pe_op op_cat (pe_lst (pa_cons (pe_callB call_len_seq (by rfl) T.b_len PySem.boot_len (pa_cons (pv 0) pa_nil)) pa_nil)) (pv 0)))), ?_⟩
  refine ⟨_, rfl, d, _, rfl, .inl (SqL.of hd), (by show 1 ≤ sizeLine; decide), fun b hb => ?_⟩
  refine ⟨_, rfl, b, d, _, _, rfl, rfl, upd_same, same_new hb _ _ hd, ?_, fun a ha => ?_⟩
  · rw [nums_len]
    exact Nat.le_trans (Nat.add_le_add_left hl 1) (by decide)
  · refine q _ a ((same_new hb).trans (same_new ha)) ((same_new hb).free ha) ?_
    rw [upd_same, List.map_cons, nums_ints, nums_len]
    rfl
def spIsSub : Sp := fun vs H Q _ => ∃ z : Int, vs = [.int z] ∧ Q (.bl (decide (0 ≤ z ∧ z ≤ 31))) H
theorem sc_is_sub : FnScope ["number"] ["number"] (defScope (top 109)) := ⟨rfl, rfl, rfl, by decide +kernel, rfl, by decide +kernel, by decide +kernel⟩
theorem ok_is_sub (T : Txt K mg C) : Kn P w K mg base 1 "is_sub" ["number"] spIsSub := by
  refine T.g_is_sub.kn sc_is_sub (fun _ _ _ _ _ _ us hl => match us, hl with | [_], _ => rfl) (fun vs H Q E h => ?_) (fun f cdv A outer s H vs Q E hr h => ?_)
  · obtain ⟨z, rfl, _⟩ := h
    rfl
  obtain ⟨z, rfl, q⟩ := h
  refine ⟨_, (pss_one (ps_ret (pe_and (pe_cmpR op_le pe_int (pv 0) (nomark _)) (pe_one (pe_cmpR op_le (pv 0) (pe_cn T.c_HIGHEST_SUB) (nomark _)))))), ?_⟩
  refine ⟨_, rfl, _, _, rfl, rfl, _, rfl, ?_⟩
  refine ite2 (fun h => ?_) fun h => ?_
  · have h : (0 : Int) ≤ z := of_decide_eq_true h
    refine ⟨_, rfl, _, _, rfl, rfl, ?_⟩
    have e : decide (0 ≤ z ∧ z ≤ 31) = decide (z ≤ 31) := by simp [h]
    rw [e] at q
    exact q
  · have h : ¬ (0 : Int) ≤ z := fun y => h (decide_eq_true y)
    rw [decide_eq_false (fun y => h y.1)] at q
    exact q

theorem no_begin (vl : List V) : (names.zip vl).lookup ("begin_anew" : Str) = none := zip_lookup_none (by decide +kernel)
def spBegin (C : Addr) : Sp := fun vs H Q _ => ∃ p M A g, ∃ a : Int, vs = [.ref p, .int a] ∧ TermAt C H p M A g ∧ Ans C H g p (mBegin M a).1 (mBegin M a).2 Q
theorem sc_begin : FnScope ["terminal", "address"] ["terminal", "address"] (defScope (top 110)) := ⟨rfl, rfl, rfl, by decide +kernel, rfl, by decide +kernel, by decide +kernel⟩
theorem ok_begin (T : Txt K mg C) : Kn P w K mg base 3 "begin" ["terminal", "address"] (spBegin C) := by
  refine T.g_begin.kn sc_begin (fun _ _ _ _ _ _ us hl => match us, hl with | [_, _], _ => rfl) (fun vs H Q E h => ?_) (fun f cdv A outer s H vs Q E hr h => ?_)
  · obtain ⟨p, M, A, g, a, rfl, _⟩ := h
    rfl
  obtain ⟨p, M, A, g, a, rfl, hT, q⟩ := h
  refine ⟨_, (pss_cons (ps_if (PW.pt (pw_or (pt_cmpR op_lt (pv 1) pe_int (nomark _)) (pw_or1 (pt_cmpR op_gt (pv 1) (pe_cn T.c_HIGHEST_ADDRESS) (nomark _))))) (pss_one (ps_ret (pe_kn0 (ok_refusal T) hr))) pss_nil)
      (pss_cons (ps_expr (pe_mt T.cl (ok_begin_anew T) hr (pv 0) (pa_cons (pv 1) pa_nil)))
      (pss_one (ps_ret (pe_kn0 (ok_done T) hr))))), ?_⟩
  unfold mBegin at q
  refine ⟨_, rfl, _, _, rfl, rfl, _, rfl, ?_⟩
  refine ite2 (fun h => ?_) fun h => ?_
  · have h : a < 0 := of_decide_eq_true h
    rw [if_pos (.inl h)] at q
    exact iteT (q.new hT (Frm.refl H g))
  · have h : ¬ a < 0 := fun z => h (decide_eq_true z)
    refine ⟨_, rfl, _, _, rfl, rfl, _, rfl, ?_⟩
    refine ite2 (fun h2 => ?_) fun h2 => ?_
    · have h2 : (30 : Int) < a := of_decide_eq_true h2
      rw [if_pos (.inr h2)] at q
      exact q.new hT (Frm.refl H g)
    · have h2 : ¬ (30 : Int) < a := fun z => h2 (decide_eq_true z)
      rw [if_neg (fun z => z.elim h h2)] at q
      obtain ⟨n, rfl⟩ : ∃ n : Nat, a = (n : Int) := ⟨a.toNat, by omega⟩
      rw [Int.toNat_natCast] at q
      exact ⟨_, rfl, p, A.dx, _, rfl, hT.ins, no_begin _, _, rfl, p, A.dx, vals M A, g, n, rfl, hT.ins, Nat.le_refl _, hT.gp, hT.fr, fun H1 A1 g1 T1 F1 => q.new T1 F1⟩

theorem in_twoI (x a b : Int) : inV (V.int x) [V.int a, V.int b] = decide (x = a ∨ x = b) := by
  unfold inV
  show (eqV (V.int a) (V.int x) || (eqV (V.int b) (V.int x) || false)) = _
  have e : ∀ y : Int, eqV (V.int y) (V.int x) = decide (x = y) := fun y => by
    show (y == x) = decide (x = y)
    by_cases h : x = y
    · subst h; simp
    · have h2 : ¬ y = x := fun z => h z.symm
      simp [h, h2]
  rw [e, e, Bool.or_false]
  by_cases h1 : x = a <;> by_cases h2 : x = b <;> simp [h1, h2]
def spTakeWord (C : Addr) : Sp := fun vs H Q _ => ∃ p M A g, ∃ (y gd : Int) (v now : Nat), vs = [.ref p, .int y, .int v, .int gd, .int now] ∧ TermAt C H p M A g ∧ Wf M ∧ Ph M ∧ v < 65536 ∧ now < 4294967296 ∧ Ans C H g p (mWord M y v gd now).1 (mWord M y v gd now).2 Q
theorem sc_take_word : FnScope ["terminal", "sync", "word", "good", "now"] ["terminal", "sync", "word", "good", "now"] (defScope (top 111)) := ⟨rfl, rfl, rfl, by decide +kernel, rfl, by decide +kernel, by decide +kernel⟩
theorem ok_take_word (T : Txt K mg C) : Kn P w K mg base 11 "take_word" ["terminal", "sync", "word", "good", "now"] (spTakeWord C) := by
  refine T.g_take_word.kn sc_take_word (fun _ _ _ _ _ _ us hl => match us, hl with | [_, _, _, _, _], _ => rfl) (fun vs H Q E h => ?_) (fun f cdv A outer s H vs Q E hr h => ?_)
  · obtain ⟨p, M, A, g, y, gd, v, now, rfl, _⟩ := h
    rfl
  obtain ⟨p, M, A, g, y, gd, v, now, rfl, hT, wf, ph, hv, hn, q⟩ := h
  refine ⟨_, (pss_cons (ps_if (pt_cmpR op_notIn_seq (pv 1) (pe_tup (pa_cons (pe_cn T.c_COMMAND_SYNC) (pa_cons (pe_cn T.c_DATA_SYNC) pa_nil))) (by with_unfolding_all rfl)) (pss_one (ps_ret (pe_kn0 (ok_refusal T) hr))) pss_nil)
      (pss_cons (ps_expr (pe_kn (ok_hear T) hr (pa_cons (pv 0) (pa_cons (pv 1) (pa_cons (pv 2) (pa_cons (pe_cmpR op_ne (pv 3) pe_int (nomark _)) (pa_cons (pv 4) pa_nil)))))))
      (pss_one (ps_ret (pe_kn0 (ok_done T) hr))))), ?_⟩
  unfold mWord at q
  have eg : (gd != 0) = (!decide (V.int gd = V.int 0)) := by
    by_cases h : gd = 0
    · subst h; rfl
    · have : ¬ V.int gd = V.int 0 := fun z => h (by injection z)
      rw [decide_eq_false this]
      simp [h]
  refine ⟨_, rfl, (by show 2 ≤ sizeLine; decide), fun d hd => ⟨d, _, rfl, .inr (SqT.of upd_same), rfl, rfl, _, rfl, ?_⟩⟩
  show if (!inV (V.int y) [V.int 0, V.int 1]) = true then _ else _
  rw [in_twoI]
  have S1 := same_new (o := .tup [V.int 0, V.int 1]) hd
  have T1 := hT.grow S1
  have F1 := Frm.same g S1
  cases h : decide (y = 0 ∨ y = 1) with
  | false =>
    rw [if_neg (of_decide_eq_false h)] at q
    exact iteT (q.new T1 F1)
  | true =>
    have h := of_decide_eq_true h
    rw [if_pos h, eg] at q
    obtain ⟨n, rfl⟩ : ∃ n : Nat, y = (n : Int) := ⟨y.toNat, by omega⟩
    rw [Int.toNat_natCast] at q
    exact iteF ⟨_, rfl, _, rfl, _, rfl, _, rfl, rfl, _, rfl, p, M, A, g, n, v, _, now, rfl, T1, wf, ⟨ph, hv, hn⟩, fun H2 A2 g2 T2 F2 => q.new T2 (F1.trans F2)⟩

def spTick (C : Addr) : Sp := fun vs H Q _ => ∃ p M A g, ∃ now : Nat, vs = [.ref p, .int now] ∧ TermAt C H p M A g ∧ Wf M ∧ Ans C H g p (silence M now) [0] Q
theorem sc_tick : FnScope ["terminal", "now"] ["terminal", "now"] (defScope (top 112)) := ⟨rfl, rfl, rfl, by decide +kernel, rfl, by decide +kernel, by decide +kernel⟩
theorem ok_tick (T : Txt K mg C) : Kn P w K mg base 4 "tick" ["terminal", "now"] (spTick C) := by
  refine T.g_tick.kn sc_tick (fun _ _ _ _ _ _ us hl => match us, hl with | [_, _], _ => rfl) (fun vs H Q E h => ?_) (fun f cdv A outer s H vs Q E hr h => ?_)
  · obtain ⟨p, M, A, g, now, rfl, _⟩ := h
    rfl
  obtain ⟨p, M, A, g, now, rfl, hT, wf, q⟩ := h
  refine ⟨_, (pss_cons (ps_expr (pe_kn (ok_notice_silence T) hr (pa_cons (pv 0) (pa_cons (pv 1) pa_nil))))
      (pss_one (ps_ret (pe_kn0 (ok_done T) hr)))), ?_⟩
  exact ⟨_, rfl, _, rfl, p, M, A, g, now, rfl, hT, wf, fun H1 A1 g1 T1 F1 => q.new T1 F1⟩

def spOutput (C : Addr) : Sp := fun vs H Q _ => ∃ p M A g, vs = [.ref p] ∧ TermAt C H p M A g ∧ Wf M ∧ Ans C H g p { M with toSend := [] } ((M.toSend.length : Int) :: intsOf M.toSend) Q
theorem sc_output : FnScope ["terminal"] ["terminal"] (defScope (top 113)) := ⟨rfl, rfl, rfl, by decide +kernel, rfl, by decide +kernel, by decide +kernel⟩
theorem ok_output (T : Txt K mg C) : Kn P w K mg base 2 "output" ["terminal"] (spOutput C) := by
  refine T.g_output.kn sc_output (fun _ _ _ _ _ _ us hl => match us, hl with | [_], _ => rfl) (fun vs H Q E h => ?_) (fun f cdv A outer s H vs Q E hr h => ?_)
  · obtain ⟨p, M, A, g, rfl, _⟩ := h
    rfl
  obtain ⟨p, M, A, g, rfl, hT, wf, q⟩ := h
  refine ⟨_, (pss_one (ps_ret (pe_kn (ok_counted T) hr (pa_cons (pe_kn (ok_fetch T) hr (pa_cons (pv 0) pa_nil)) pa_nil)))), ?_⟩
  have hl := wf.se
  exact ⟨_, rfl, p, M, A, g, rfl, hT, fun H1 A1 g1 a h1 T1 F1 => ⟨a, M.toSend, rfl, h1, by omega, fun H2 b S2 hb h2 => q H2 A1 g1 b (T1.grow S2) (F1.trans (Frm.same g1 S2)) h2 fun c o e z => ne_of_none (F1 c o e z).1 hb⟩⟩

def spGive (C : Addr) : Sp := fun vs H Q _ => ∃ p M A g d, ∃ (k : Int) (l : List Nat), vs = [.ref p, .int k, .ref d] ∧ TermAt C H p M A g ∧ Wf M ∧ H d = some (.lst (nums l)) ∧ g d = 0 ∧ AnsX C d H g p (mGive M k l).1 (mGive M k l).2 Q
theorem sc_give : FnScope ["terminal", "sub", "words"] ["terminal", "sub", "words"] (defScope (top 114)) := ⟨rfl, rfl, rfl, by decide +kernel, rfl, by decide +kernel, by decide +kernel⟩
theorem ok_give (T : Txt K mg C) : Kn P w K mg base 2 "give" ["terminal", "sub", "words"] (spGive C) := by
  refine T.g_give.kn sc_give (fun _ _ _ _ _ _ us hl => match us, hl with | [_, _, _], _ => rfl) (fun vs H Q E h => ?_) (fun f cdv A outer s H vs Q E hr h => ?_)
  · obtain ⟨p, M, A, g, d, k, l, rfl, _⟩ := h
    rfl
  obtain ⟨p, M, A, g, d, k, l, rfl, hT, wf, hd, gd, q⟩ := h
  refine ⟨_, (pss_cons (ps_if (PW.pt (pw_or (pt_not (pt_val (pe_kn (ok_is_sub T) hr (pa_cons (pv 1) pa_nil)))) (pw_or1 (pt_cmpR op_gt (pe_callB call_len_seq (by rfl) T.b_len PySem.boot_len (pa_cons (pv 2) pa_nil)) (pe_cn T.c_LONGEST_ROW) (nomark _))))) (pss_one (ps_ret (pe_kn0 (ok_refusal T) hr))) pss_nil)
      (pss_cons (ps_asg (pv 2) (pg_sub (pe_tf T 3 (pv 0)) (pv 1) set_list))
      (pss_one (ps_ret (pe_kn0 (ok_done T) hr))))), ?_⟩
  unfold mGive at q
  refine ⟨_, rfl, k, rfl, _, rfl, ?_⟩
  show if (!decide (0 ≤ k ∧ k ≤ 31)) = true then _ else _
  cases h : decide (0 ≤ k ∧ k ≤ 31) with
  | false =>
    rw [if_neg (fun z => of_decide_eq_false h z.1)] at q
    exact iteT (iteT (q.new hT (Frm.refl H g).x))
  | true =>
    have h := of_decide_eq_true h
    refine iteF ⟨_, rfl, d, _, rfl, .inl (SqL.of hd), _, _, rfl, rfl, _, rfl, ?_⟩
    refine ite2 (fun h2 => ?_) fun h2 => ?_
    · have h2 : (32 : Int) < ((nums l).length : Int) := of_decide_eq_true h2
      rw [nums_len] at h2
      rw [if_neg (fun z => by omega)] at q
      exact q.new hT (Frm.refl H g).x
    · have h2 : ¬ (32 : Int) < ((nums l).length : Int) := fun z => h2 (decide_eq_true z)
      rw [nums_len] at h2
      rw [if_pos ⟨h, by omega⟩] at q
      obtain ⟨n, rfl⟩ : ∃ n : Nat, k = (n : Int) := ⟨k.toNat, by omega⟩
      rw [Int.toNat_natCast] at q
      have T1 := hT.setGiven (k := n) (by omega) wf.gi hd gd
      exact ⟨_, rfl, _, rfl, p, M, A, g, _, rfl, hT, rfl, _, rfl, A.gi, _, _, n, rfl, rfl, hT.gi, ixN_nat (by rw [refs_len]; omega), q.new T1 fun b o e1 e z => ⟨by rw [upd_ne (ne_tag z hT.ggi (by decide))]; exact e, retag_zero e1 z⟩⟩

def spGet (C : Addr) : Sp := fun vs H Q _ => ∃ p M A g, ∃ k : Int, vs = [.ref p, .int k] ∧ TermAt C H p M A g ∧ Wf M ∧ Ans C H g p (mGet M k).1 (mGet M k).2 Q
theorem sc_get_words : FnScope ["terminal", "sub", "words"] ["terminal", "sub"] (defScope (top 115)) := ⟨rfl, rfl, rfl, by decide +kernel, rfl, by decide +kernel, by decide +kernel⟩
theorem ok_get_words (T : Txt K mg C) : Kn P w K mg base 2 "get_words" ["terminal", "sub"] (spGet C) := by
  refine T.g_get_words.kn sc_get_words (fun _ _ _ _ _ _ us hl => match us, hl with | [_, _], _ => rfl) (fun vs H Q E h => ?_) (fun f cdv A outer s H vs Q E hr h => ?_)
  · obtain ⟨p, M, A, g, k, rfl, _⟩ := h
    rfl
  obtain ⟨p, M, A, g, k, rfl, hT, wf, q⟩ := h
  refine ⟨_, (pss_cons (ps_if (pt_not (pt_val (pe_kn (ok_is_sub T) hr (pa_cons (pv 1) pa_nil)))) (pss_one (ps_ret (pe_kn0 (ok_refusal T) hr))) pss_nil)
      (pss_cons (ps_set (i := 2) sc_get_words.nd rfl (Or.inl rfl) (pe_ix ix_list (pe_tf T 4 (pv 0)) (pv 1) (fun _ _ => rfl)))
      (pss_cons (ps_asg (pe_lst pa_nil) (pg_sub (pe_tf T 4 (pv 0)) (pv 1) set_list))
      (pss_one (ps_ret (pe_kn (ok_counted T) hr (pa_cons (pv 2) pa_nil))))))), ?_⟩
  unfold mGet at q
  refine ⟨_, rfl, k, rfl, _, rfl, ?_⟩
  show if (!decide (0 ≤ k ∧ k ≤ 31)) = true then _ else _
  cases h : decide (0 ≤ k ∧ k ≤ 31) with
  | false =>
    rw [if_neg (of_decide_eq_false h)] at q
    exact iteT (q.new hT (Frm.refl H g))
  | true =>
    have h := of_decide_eq_true h
    rw [if_pos h] at q
    obtain ⟨n, rfl⟩ : ∃ n : Nat, k = (n : Int) := ⟨k.toNat, by omega⟩
    rw [Int.toNat_natCast] at q
    have hn : n < 32 := by omega
    refine iteF ⟨_, rfl, p, M, A, g, _, rfl, hT, rfl, _, rfl, A.go, _, _, _, rfl, rfl, SqL.of hT.go, atI_nat (refs_get _ hn), Nat.zero_le _, fun d hd => ?_⟩
    have S1 := same_new (o := .lst []) hd
    have T1 := hT.grow S1
    have T2 := T1.setGot (l := []) (k := n) hn wf.go upd_same (hT.fr d hd)
    have hw : upd (upd H d (.lst [])) A.go (.lst ((refs 32 A.goI).set n (V.ref d))) (A.goI n) = some (.lst (nums (M.got.getD n []))) := by
      rw [upd_ne (ne_tag (hT.ggoI n hn) hT.ggo (by omega))]
      exact T1.goI n hn
    have F2 : Frm H g (upd (upd H d (.lst [])) A.go (.lst ((refs 32 A.goI).set n (V.ref d)))) (retag g d (A.goI n) (200 + n)) := fun b o e z => ⟨by
      rw [upd_ne (ne_tag z hT.ggo (by decide))]
      exact S1 b o e, retag_zero (ne_of_none e hd) z⟩
    have hl := wf.gos n
    refine ⟨_, rfl, p, M, A, g, _, rfl, T1, rfl, _, rfl, A.go, _, _, n, rfl, rfl, T1.go, ixN_nat (by rw [refs_len]; exact hn), ?_⟩
    exact ⟨_, rfl, A.goI n, M.got.getD n [], rfl, hw, by omega, fun H3 a S3 ha h3 => q H3 _ _ a (T2.grow S3) (F2.trans (Frm.same _ S3)) h3 fun b o e z => ne_of_none (F2 b o e z).1 ha⟩

def spFlags (C : Addr) : Sp := fun vs H Q _ => ∃ p M A g, ∃ k : Int, vs = [.ref p, .int k] ∧ TermAt C H p M A g ∧ Ans C H g p (mFlags M k).1 (mFlags M k).2 Q
theorem sc_set_flags : FnScope ["terminal", "flags"] ["terminal", "flags"] (defScope (top 116)) := ⟨rfl, rfl, rfl, by decide +kernel, rfl, by decide +kernel, by decide +kernel⟩
theorem ok_set_flags (T : Txt K mg C) : Kn P w K mg base 2 "set_flags" ["terminal", "flags"] (spFlags C) := by
  refine T.g_set_flags.kn sc_set_flags (fun _ _ _ _ _ _ us hl => match us, hl with | [_, _], _ => rfl) (fun vs H Q E h => ?_) (fun f cdv A outer s H vs Q E hr h => ?_)
  · obtain ⟨p, M, A, g, k, rfl, _⟩ := h
    rfl
  obtain ⟨p, M, A, g, k, rfl, hT, q⟩ := h
  refine ⟨_, (pss_cons (ps_if (PW.pt (pw_or (pt_cmpR op_lt (pv 1) pe_int (nomark _)) (pw_or1 (pt_cmpR op_gt (pv 1) (pe_cn T.c_HIGHEST_FLAGS) (nomark _))))) (pss_one (ps_ret (pe_kn0 (ok_refusal T) hr))) pss_nil)
      (pss_cons (ps_ts T 1 (pv 0) (pv 1))
      (pss_one (ps_ret (pe_kn0 (ok_done T) hr))))), ?_⟩
  unfold mFlags at q
  refine ⟨_, rfl, _, _, rfl, rfl, _, rfl, ?_⟩
  refine ite2 (fun h => ?_) fun h => ?_
  · have h : k < 0 := of_decide_eq_true h
    rw [if_pos (.inl h)] at q
    exact iteT (q.new hT (Frm.refl H g))
  · have h : ¬ k < 0 := fun z => h (decide_eq_true z)
    refine ⟨_, rfl, _, _, rfl, rfl, _, rfl, ?_⟩
    refine ite2 (fun h2 => ?_) fun h2 => ?_
    · have h2 : (31 : Int) < k := of_decide_eq_true h2
      rw [if_pos (.inr h2)] at q
      exact q.new hT (Frm.refl H g)
    · have h2 : ¬ (31 : Int) < k := fun z => h2 (decide_eq_true z)
      rw [if_neg (fun z => z.elim h h2)] at q
      obtain ⟨n, rfl⟩ : ∃ n : Nat, k = (n : Int) := ⟨k.toNat, by omega⟩
      rw [Int.toNat_natCast] at q
      exact ⟨_, rfl, _, rfl, p, M, A, g, { M with flags := n }, rfl, hT, ⟨fun _ => rfl, rfl, rfl, rfl, rfl, rfl⟩, fun H1 T1 F1 => q.new T1 F1⟩

def spHas : Sp := fun vs H Q _ => ∃ x k : Int, vs = [.int x, .int k] ∧ Q (.bl (hasAllowed x k)) H
theorem sc_has_allowed_counts : FnScope ["what", "sub"] ["what", "sub"] (defScope (top 118)) := ⟨rfl, rfl, rfl, by decide +kernel, rfl, by decide +kernel, by decide +kernel⟩
theorem ok_has_allowed_counts (T : Txt K mg C) : Kn P w K mg base 2 "has_allowed_counts" ["what", "sub"] spHas := by
  refine T.g_has_allowed_counts.kn sc_has_allowed_counts (fun _ _ _ _ _ _ us hl => match us, hl with | [_, _], _ => rfl) (fun vs H Q E h => ?_) (fun f cdv A outer s H vs Q E hr h => ?_)
  · obtain ⟨x, k, rfl, _⟩ := h
    rfl
  obtain ⟨x, k, rfl, q⟩ := h
  refine ⟨_, (pss_cons (ps_if (PW.pt (pw_or (pt_cmpR op_lt (pv 0) (pe_cn T.c_TO_RECEIVE) (nomark _)) (pw_or1 (pt_cmpR op_gt (pv 0) (pe_cn T.c_HIGH_MODES) (nomark _))))) (pss_one (ps_ret pe_bl)) pss_nil)
      (pss_cons (ps_if (pt_cmpR op_ge (pv 0) (pe_cn T.c_LOW_MODES) (nomark _)) (pss_one (ps_ret (pe_cmpR op_eq (pv 1) pe_int (nomark _)))) pss_nil)
      (pss_one (ps_ret (pe_kn (ok_is_sub T) hr (pa_cons (pv 1) pa_nil)))))), ?_⟩
  unfold hasAllowed at q
  refine ⟨_, rfl, _, _, rfl, rfl, _, rfl, ?_⟩
  refine ite2 (fun h => ?_) fun h => ?_
  · have h : x < 0 := of_decide_eq_true h
    rw [if_pos (.inl h)] at q
    exact iteT q
  · have h : ¬ x < 0 := fun z => h (decide_eq_true z)
    refine ⟨_, rfl, _, _, rfl, rfl, _, rfl, ?_⟩
    refine ite2 (fun h2 => ?_) fun h2 => ?_
    · have h2 : (4 : Int) < x := of_decide_eq_true h2
      rw [if_pos (.inr h2)] at q
      exact q
    · have h2 : ¬ (4 : Int) < x := fun z => h2 (decide_eq_true z)
      rw [if_neg (fun z => z.elim h h2)] at q
      refine ⟨_, rfl, _, _, rfl, rfl, _, rfl, ?_⟩
      refine ite2 (fun h3 => ?_) fun h3 => ?_
      · have h3 : (3 : Int) ≤ x := of_decide_eq_true h3
        rw [if_pos h3] at q
        have e : decide (k = 0) = decide (V.int k = V.int 0) := by
          by_cases z : k = 0
          · subst z; simp
          · have : ¬ V.int k = V.int 0 := fun y => z (by injection y)
            rw [decide_eq_false z, decide_eq_false this]
        rw [e] at q
        exact ⟨_, rfl, rfl, q⟩
      · have h3 : ¬ (3 : Int) ≤ x := fun z => h3 (decide_eq_true z)
        have e : (decide (0 ≤ k) && decide (k ≤ 31)) = decide (0 ≤ k ∧ k ≤ 31) := by
          by_cases h1 : 0 ≤ k <;> by_cases h2 : k ≤ 31 <;> simp [h1, h2]
        rw [if_neg h3, e] at q
        exact ⟨_, rfl, k, rfl, q⟩

def spAllow (C : Addr) : Sp := fun vs H Q _ => ∃ p M A g, ∃ (x k : Int) (m : Nat), vs = [.ref p, .int x, .int k, .int m] ∧ TermAt C H p M A g ∧ Wf M ∧ Ans C H g p (mAllow M x k m).1 (mAllow M x k m).2 Q
theorem sc_allow : FnScope ["terminal", "what", "sub", "counts"] ["terminal", "what", "sub", "counts"] (defScope (top 117)) := ⟨rfl, rfl, rfl, by decide +kernel, rfl, by decide +kernel, by decide +kernel⟩
theorem ok_allow (T : Txt K mg C) : Kn P w K mg base 3 "allow" ["terminal", "what", "sub", "counts"] (spAllow C) := by
  refine T.g_allow.kn sc_allow (fun _ _ _ _ _ _ us hl => match us, hl with | [_, _, _, _], _ => rfl) (fun vs H Q E h => ?_) (fun f cdv A outer s H vs Q E hr h => ?_)
  · obtain ⟨p, M, A, g, x, k, m, rfl, _⟩ := h
    rfl
  obtain ⟨p, M, A, g, x, k, m, rfl, hT, wf, q⟩ := h
  refine ⟨_, (pss_cons (ps_if (pt_not (pt_val (pe_kn (ok_has_allowed_counts T) hr (pa_cons (pv 1) (pa_cons (pv 2) pa_nil))))) (pss_one (ps_ret (pe_kn0 (ok_refusal T) hr))) pss_nil)
      (pss_cons (ps_asg (pv 3) (pg_sub (pe_ix ix_list (pe_tf T 2 (pv 0)) (pv 1) (fun _ _ => rfl)) (pv 2) set_list))
      (pss_one (ps_ret (pe_kn0 (ok_done T) hr))))), ?_⟩
  unfold mAllow at q
  refine ⟨_, rfl, _, rfl, x, k, rfl, _, rfl, ?_⟩
  show if (!hasAllowed x k) = true then _ else _
  cases h : hasAllowed x k with
  | false =>
    rw [h, if_neg Bool.false_ne_true] at q
    exact iteT (q.new hT (Frm.refl H g))
  | true =>
    rw [h, if_pos rfl] at q
    have hx : 0 ≤ x ∧ x ≤ 4 := by
      unfold hasAllowed at h
      by_cases z : x < 0 ∨ 4 < x
      · rw [if_pos z] at h
        cases h
      · omega
    obtain ⟨n, rfl⟩ : ∃ n : Nat, x = (n : Int) := ⟨x.toNat, by omega⟩
    have hn : n < 5 := by omega
    have hk : 0 ≤ k ∧ k < ((M.allowed.getD n []).length : Int) := by
      unfold hasAllowed at h
      rw [if_neg (by omega)] at h
      by_cases z : (3 : Int) ≤ (n : Int)
      · rw [if_pos z] at h
        rw [wf.al3 n (by omega) hn, of_decide_eq_true h]
        decide
      · rw [if_neg z, Bool.and_eq_true] at h
        have h1 := of_decide_eq_true h.1
        have h2 := of_decide_eq_true h.2
        rw [wf.al0 n (by omega)]
        omega
    obtain ⟨j, rfl⟩ : ∃ j : Nat, k = (j : Int) := ⟨k.toNat, by omega⟩
    rw [Int.toNat_natCast, Int.toNat_natCast] at q
    have T1 : TermAt C (upd H (A.alI n) (.lst ((nums (M.allowed.getD n [])).set j (V.int (m : Int))))) p { M with allowed := M.allowed.set n ((M.allowed.getD n []).set j m) } A g := by
      rw [nums_set]
      exact hT.setAllowed hn wf.al
    have F1 : Frm H g (upd H (A.alI n) (.lst ((nums (M.allowed.getD n [])).set j (V.int (m : Int))))) g := hT.frm (by rw [hT.galI n hn]; omega)
    exact iteF ⟨_, rfl, _, rfl, p, M, A, g, _, rfl, hT, rfl, _, rfl, A.al, _, _, _, rfl, rfl, SqL.of hT.al, atI_nat (refs_get _ hn), _, rfl, A.alI n, _, _, j, rfl, rfl, hT.alI n hn, ixN_nat (by rw [nums_len]; omega), q.new T1 F1⟩

def spTold (C : Addr) : Sp := fun vs H Q _ => ∃ p M A g, vs = [.ref p] ∧ TermAt C H p M A g ∧ Ans C H g p M (mTold M) Q
theorem sc_told : FnScope ["terminal"] ["terminal"] (defScope (top 119)) := ⟨rfl, rfl, rfl, by decide +kernel, rfl, by decide +kernel, by decide +kernel⟩
theorem ok_told (T : Txt K mg C) : Kn P w K mg base 1 "told" ["terminal"] (spTold C) := by
  refine T.g_told.kn sc_told (fun _ _ _ _ _ _ us hl => match us, hl with | [_], _ => rfl) (fun vs H Q E h => ?_) (fun f cdv A outer s H vs Q E hr h => ?_)
  · obtain ⟨p, M, A, g, rfl, _⟩ := h
    rfl
  obtain ⟨p, M, A, g, rfl, hT, q⟩ := h
  refine ⟨_, (pss_one (ps_ret (pe_lst (pa_cons pe_int (pa_cons (pe_tf T 8 (pv 0)) (pa_cons (pe_tf T 7 (pv 0)) (pa_cons (pe_tf T 9 (pv 0)) (pa_cons (pe_tf T 12 (pv 0)) (pa_cons (pe_tf T 5 (pv 0)) (pa_cons (pe_tf T 6 (pv 0)) pa_nil)))))))))), ?_⟩
  exact ⟨_, rfl, p, M, A, g, _, rfl, hT, rfl, _, rfl, p, M, A, g, _, rfl, hT, rfl, _, rfl, p, M, A, g, _, rfl, hT, rfl, _, rfl, p, M, A, g, _, rfl, hT, rfl, _, rfl, p, M, A, g, _, rfl, hT, rfl, _, rfl, p, M, A, g, _, rfl, hT, rfl,
    (by show 7 ≤ sizeLine; decide), (q.new hT (Frm.refl H g)).2⟩
end
end Bt
end
section
set_option Elab.async false
set_option linter.all false
set_option maxRecDepth 100000
set_option maxHeartbeats 4000000
/-! A call is answered; the line's loop. -/
namespace Bt
open PySem PySem.Spec PyProof.Rows L2
def lensV : List V := [V.int 2, V.int 5, V.int 2, V.int 1, V.int 3, V.int 2, V.int 2, V.int 4, V.int 1]
def tLensA (K : PySem.W.Frag) : TE := fun _ H Q => ∀ a, (∀ H, SqT K H a lensV) → Q (.ref a) H
theorem pe_lens {X : Cx} {C : Addr} {pos : Pos} (T : Txt X.K X.mg C) (hg : Gl X "CALL_LENGTHS" := by rfl) : PE X (.Name "CALL_LENGTHS" pos) (tLensA X.K) := by
  obtain ⟨a, h1, h2⟩ := T.lens
  have h : PE X (.Name "CALL_LENGTHS" pos) (tC (.ref a)) := pe_glob hg h1 rfl
  intro pins s σ H Q I q
  exact h pins s σ H Q I (q a h2)
section
variable {P : Program} {w : World} {K : PySem.W.Frag} {mg : Str → Option Value} {base : Heap} {C : Addr}
theorem map_at {ns : List Int} {k : Nat} {z : Int} (h : ns[k]? = some z) : (ns.map V.int)[k]? = some (V.int z) := by
  rw [List.getElem?_map, h]
  rfl
def spLen (K : PySem.W.Frag) : Sp := fun vs H Q _ => ∃ (c : Addr) (ns : List Int) (k L : Nat), vs = [.ref c, .int k] ∧ SqL K H c (ns.map V.int) ∧ LenAt (ns.drop k) L ∧ Q (.int L) H
theorem sc_call_length : FnScope ["calls", "place", "number"] ["calls", "place"] (defScope (top 104)) := ⟨rfl, rfl, rfl, by decide +kernel, rfl, by decide +kernel, by decide +kernel⟩
theorem ok_call_length (T : Txt K mg C) : Kn P w K mg base 1 "call_length" ["calls", "place"] (spLen K) := by
  refine T.g_call_length.kn sc_call_length (fun _ _ _ _ _ _ us hl => match us, hl with | [_, _], _ => rfl) (fun vs H Q E h => ?_) (fun f cdv A outer s H vs Q E hr h => ?_)
  · obtain ⟨c, ns, k, L, rfl, _⟩ := h
    rfl
  obtain ⟨c, ns, k, L, rfl, hS, ⟨i, hi, h0, hL⟩, q⟩ := h
  refine ⟨_, (pss_cons (ps_set (i := 2) sc_call_length.nd rfl (Or.inl rfl) (pe_ix ix_list (pv 0) (pv 1) (fun _ _ => rfl)))
      (pss_cons (ps_if (PW.pt (pw_or (pt_cmpR op_lt (pv 2) (pe_cn T.c_BEGIN) (nomark _)) (pw_or1 (pt_cmpR op_gt (pv 2) (pe_cn T.c_TOLD) (nomark _))))) (pss_one ps_never) pss_nil)
      (pss_cons (ps_if (pt_cmpR op_eq (pv 2) (pe_cn T.c_GIVE) (nomark _)) (pss_one (ps_ret (pe_op op_add (pe_ix ix_tup (pe_lens T) (pe_cn T.c_GIVE) (fun _ _ => rfl)) (pe_ix ix_list (pv 0) (pe_op op_add (pv 1) pe_int) (fun _ _ => rfl))))) pss_nil)
      (pss_one (ps_ret (pe_ix ix_tup (pe_lens T) (pv 2) (fun _ _ => rfl))))))), ?_⟩
  rw [List.getElem?_drop] at h0
  refine ⟨_, rfl, _, rfl, c, _, _, _, rfl, rfl, hS, atI_nat (map_at h0), ?_⟩
  refine ⟨_, rfl, _, _, rfl, rfl, _, rfl, ?_⟩
  refine ite2 (fun h => ?_) fun _ => ?_
  · have h : (i : Int) < 0 := of_decide_eq_true h
    omega
  refine ⟨_, rfl, _, _, rfl, rfl, _, rfl, ?_⟩
  refine ite2 (fun h => ?_) fun _ => ?_
  · have h : (8 : Int) < (i : Int) := of_decide_eq_true h
    omega
  refine ⟨_, rfl, rfl, _, rfl, ?_⟩
  show if decide (V.int (i : Int) = V.int ((4 : Nat) : Int)) = true then _ else _
  rw [dec_nat]
  rcases hL with ⟨rfl, z, hz, eL⟩ | ⟨n4, hL⟩
  · rw [List.getElem?_drop] at hz
    have q : Q (.int (3 + z)) H := by rw [eL]; exact q
    exact iteT fun a ha => ⟨a, _, _, _, rfl, rfl, ha H, atI_nat (j := 4) rfl, _, rfl, _, rfl, _, _, rfl, rfl, c, _, _, _, rfl, rfl, hS, at_of (j := k + 2) (by omega) (map_at hz), _, _, rfl, rfl, q⟩
  · rw [decide_eq_false n4]
    refine iteF fun a ha => ⟨_, rfl, a, _, _, _, rfl, rfl, ha H, atI_nat (j := i) (v := V.int (L : Int)) ?_, q⟩
    have e : lensV = nums [2, 5, 2, 1, 3, 2, 2, 4, 1] := rfl
    rw [e]
    exact nums_get hL

theorem cut_three (a b c : V) (xs : List V) : cutV (a :: b :: c :: xs) (some 3) none = xs := by
  unfold cutV
  have e : HT.sIx (a :: b :: c :: xs).length 0 (some 3) = 3 := by
    rw [show (3 : Int) = ((3 : Nat) : Int) from rfl, HT.sIx_nat]
    simp only [List.length_cons]
    omega
  rw [e, HT.sIx_none]
  show xs.take ((a :: b :: c :: xs).length - 3) = xs
  rw [List.take_of_length_le]
  simp only [List.length_cons]
  omega
def spAnswer (C : Addr) : Sp := fun vs H Q _ => ∃ p M A g d cl M' l, vs = [.ref p, .ref d] ∧ TermAt C H p M A g ∧ Wf M ∧ Ph M ∧ H d = some (.lst (cl.map V.int)) ∧ CallOf M cl M' l ∧ Ans C H g p M' l Q
theorem sc_answer : FnScope ["terminal", "call", "number"] ["terminal", "call"] (defScope (top 105)) := ⟨rfl, rfl, rfl, by decide +kernel, rfl, by decide +kernel, by decide +kernel⟩
theorem ok_answer (T : Txt K mg C) : Kn P w K mg base 12 "answer" ["terminal", "call"] (spAnswer C) := by
  refine T.g_answer.kn sc_answer (fun _ _ _ _ _ _ us hl => match us, hl with | [_, _], _ => rfl) (fun vs H Q E h => ?_) (fun f cdv A outer s H vs Q E hr h => ?_)
  · obtain ⟨p, M, A, g, d, cl, M', l, rfl, _⟩ := h
    rfl
  obtain ⟨p, M, A, g, d, cl, M', l, rfl, hT, wf, ph, hd, hc, q⟩ := h
  refine ⟨_, (pss_cons (ps_set (i := 2) sc_answer.nd rfl (Or.inl rfl) (pe_ix ix_list (pv 1) pe_int (fun _ _ => rfl)))
      (pss_cons (ps_if (pt_cmpR op_eq (pv 2) (pe_cn T.c_BEGIN) (nomark _)) (pss_one (ps_ret (pe_kn (ok_begin T) hr (pa_cons (pv 0) (pa_cons (pe_ix ix_list (pv 1) pe_int (fun _ _ => rfl)) pa_nil))))) pss_nil)
      (pss_cons (ps_if (pt_cmpR op_eq (pv 2) (pe_cn T.c_WORD) (nomark _)) (pss_one (ps_ret (pe_kn (ok_take_word T) hr (pa_cons (pv 0) (pa_cons (pe_ix ix_list (pv 1) pe_int (fun _ _ => rfl)) (pa_cons (pe_ix ix_list (pv 1) pe_int (fun _ _ => rfl)) (pa_cons (pe_ix ix_list (pv 1) pe_int (fun _ _ => rfl)) (pa_cons (pe_ix ix_list (pv 1) pe_int (fun _ _ => rfl)) pa_nil)))))))) pss_nil)
      (pss_cons (ps_if (pt_cmpR op_eq (pv 2) (pe_cn T.c_TICK) (nomark _)) (pss_one (ps_ret (pe_kn (ok_tick T) hr (pa_cons (pv 0) (pa_cons (pe_ix ix_list (pv 1) pe_int (fun _ _ => rfl)) pa_nil))))) pss_nil)
      (pss_cons (ps_if (pt_cmpR op_eq (pv 2) (pe_cn T.c_OUTPUT) (nomark _)) (pss_one (ps_ret (pe_kn (ok_output T) hr (pa_cons (pv 0) pa_nil)))) pss_nil)
      (pss_cons (ps_if (pt_cmpR op_eq (pv 2) (pe_cn T.c_GIVE) (nomark _)) (pss_one (ps_ret (pe_kn (ok_give T) hr (pa_cons (pv 0) (pa_cons (pe_ix ix_list (pv 1) pe_int (fun _ _ => rfl)) (pa_cons (pe_slice sl_list (pv 1) (po_some pe_int) po_none) pa_nil)))))) pss_nil)
      (pss_cons (ps_if (pt_cmpR op_eq (pv 2) (pe_cn T.c_GET) (nomark _)) (pss_one (ps_ret (pe_kn (ok_get_words T) hr (pa_cons (pv 0) (pa_cons (pe_ix ix_list (pv 1) pe_int (fun _ _ => rfl)) pa_nil))))) pss_nil)
      (pss_cons (ps_if (pt_cmpR op_eq (pv 2) (pe_cn T.c_SET_FLAGS) (nomark _)) (pss_one (ps_ret (pe_kn (ok_set_flags T) hr (pa_cons (pv 0) (pa_cons (pe_ix ix_list (pv 1) pe_int (fun _ _ => rfl)) pa_nil))))) pss_nil)
      (pss_cons (ps_if (pt_cmpR op_eq (pv 2) (pe_cn T.c_ALLOW) (nomark _)) (pss_one (ps_ret (pe_kn (ok_allow T) hr (pa_cons (pv 0) (pa_cons (pe_ix ix_list (pv 1) pe_int (fun _ _ => rfl)) (pa_cons (pe_ix ix_list (pv 1) pe_int (fun _ _ => rfl)) (pa_cons (pe_ix ix_list (pv 1) pe_int (fun _ _ => rfl)) pa_nil))))))) pss_nil)
      (pss_one (ps_ret (pe_kn (ok_told T) hr (pa_cons (pv 0) pa_nil))))))))))))), ?_⟩
  cases hc with
  | begin a =>
    exact ⟨_, rfl, d, _, _, _, rfl, rfl, SqL.of hd, atI_nat (j := 0) rfl, _, rfl, rfl, _, rfl, iteT ⟨_, rfl, _, rfl, d, _, _, _, rfl, rfl, SqL.of hd, atI_nat (j := 1) rfl, p, M, A, g, a, rfl, hT, q⟩⟩
  | word y gd v now hv hn =>
    refine ⟨_, rfl, d, _, _, _, rfl, rfl, SqL.of hd, atI_nat (j := 0) rfl, _, rfl, rfl, _, rfl, iteF ⟨_, rfl, rfl, _, rfl, iteT ?_⟩⟩
    exact ⟨_, rfl, _, rfl, d, _, _, _, rfl, rfl, SqL.of hd, atI_nat (j := 1) rfl, _, rfl, d, _, _, _, rfl, rfl, SqL.of hd, atI_nat (j := 2) rfl, _, rfl, d, _, _, _, rfl, rfl, SqL.of hd, atI_nat (j := 3) rfl, _, rfl, d, _, _, _, rfl, rfl, SqL.of hd, atI_nat (j := 4) rfl,
      p, M, A, g, y, gd, v, now, rfl, hT, wf, ph, hv, hn, q⟩
  | tick now =>
    exact ⟨_, rfl, d, _, _, _, rfl, rfl, SqL.of hd, atI_nat (j := 0) rfl, _, rfl, rfl, _, rfl, iteF ⟨_, rfl, rfl, _, rfl, iteF ⟨_, rfl, rfl, _, rfl, iteT ⟨_, rfl, _, rfl, d, _, _, _, rfl, rfl, SqL.of hd, atI_nat (j := 1) rfl, p, M, A, g, now, rfl, hT, wf, q⟩⟩⟩⟩
  | output =>
    exact ⟨_, rfl, d, _, _, _, rfl, rfl, SqL.of hd, atI_nat (j := 0) rfl, _, rfl, rfl, _, rfl, iteF ⟨_, rfl, rfl, _, rfl, iteF ⟨_, rfl, rfl, _, rfl, iteF ⟨_, rfl, rfl, _, rfl, iteT ⟨_, rfl, p, M, A, g, rfl, hT, wf, q⟩⟩⟩⟩⟩
  | give k l h hl =>
    refine ⟨_, rfl, d, _, _, _, rfl, rfl, SqL.of hd, atI_nat (j := 0) rfl, _, rfl, rfl, _, rfl, iteF ⟨_, rfl, rfl, _, rfl, iteF ⟨_, rfl, rfl, _, rfl, iteF ⟨_, rfl, rfl, _, rfl, iteF ⟨_, rfl, rfl, _, rfl, iteT ?_⟩⟩⟩⟩⟩
    refine ⟨_, rfl, _, rfl, d, _, _, _, rfl, rfl, SqL.of hd, atI_nat (j := 1) rfl, _, rfl, _, rfl, d, _, rfl, SqL.of hd, fun e he => ?_⟩
    have ec : cutV ((4 :: k :: (l.length : Int) :: intsOf l).map V.int) (some 3) none = nums l := by
      rw [List.map_cons, List.map_cons, List.map_cons, cut_three, nums_ints]
    have S1 := same_new (o := .lst (cutV ((4 :: k :: (l.length : Int) :: intsOf l).map V.int) (some 3) none)) he
    refine ⟨p, M, A, g, e, k, l, rfl, hT.grow S1, wf, by rw [upd_same, ec], hT.fr e he, fun H2 A2 g2 a T2 F2 h2 n2 => ?_⟩
    exact q H2 A2 g2 a T2 (fun b o eb z => F2 b o (ne_of_none eb he) (S1 b o eb) z) h2 fun b o eb z => n2 b o (ne_of_none eb he) (S1 b o eb) z
  | get k =>
    exact ⟨_, rfl, d, _, _, _, rfl, rfl, SqL.of hd, atI_nat (j := 0) rfl, _, rfl, rfl, _, rfl, iteF ⟨_, rfl, rfl, _, rfl, iteF ⟨_, rfl, rfl, _, rfl, iteF ⟨_, rfl, rfl, _, rfl, iteF ⟨_, rfl, rfl, _, rfl, iteF ⟨_, rfl, rfl, _, rfl, iteT
      ⟨_, rfl, _, rfl, d, _, _, _, rfl, rfl, SqL.of hd, atI_nat (j := 1) rfl, p, M, A, g, k, rfl, hT, wf, q⟩⟩⟩⟩⟩⟩⟩
  | flags k =>
    exact ⟨_, rfl, d, _, _, _, rfl, rfl, SqL.of hd, atI_nat (j := 0) rfl, _, rfl, rfl, _, rfl, iteF ⟨_, rfl, rfl, _, rfl, iteF ⟨_, rfl, rfl, _, rfl, iteF ⟨_, rfl, rfl, _, rfl, iteF ⟨_, rfl, rfl, _, rfl, iteF ⟨_, rfl, rfl, _, rfl, iteF ⟨_, rfl, rfl, _, rfl, iteT
      ⟨_, rfl, _, rfl, d, _, _, _, rfl, rfl, SqL.of hd, atI_nat (j := 1) rfl, p, M, A, g, k, rfl, hT, q⟩⟩⟩⟩⟩⟩⟩⟩
  | allow x k m =>
    refine ⟨_, rfl, d, _, _, _, rfl, rfl, SqL.of hd, atI_nat (j := 0) rfl, _, rfl, rfl, _, rfl, iteF ⟨_, rfl, rfl, _, rfl, iteF ⟨_, rfl, rfl, _, rfl, iteF ⟨_, rfl, rfl, _, rfl, iteF ⟨_, rfl, rfl, _, rfl, iteF ⟨_, rfl, rfl, _, rfl, iteF ⟨_, rfl, rfl, _, rfl, iteF ⟨_, rfl, rfl, _, rfl, iteT ?_⟩⟩⟩⟩⟩⟩⟩⟩
    exact ⟨_, rfl, _, rfl, d, _, _, _, rfl, rfl, SqL.of hd, atI_nat (j := 1) rfl, _, rfl, d, _, _, _, rfl, rfl, SqL.of hd, atI_nat (j := 2) rfl, _, rfl, d, _, _, _, rfl, rfl, SqL.of hd, atI_nat (j := 3) rfl, p, M, A, g, x, k, m, rfl, hT, wf, q⟩
  | told =>
    exact ⟨_, rfl, d, _, _, _, rfl, rfl, SqL.of hd, atI_nat (j := 0) rfl, _, rfl, rfl, _, rfl, iteF ⟨_, rfl, rfl, _, rfl, iteF ⟨_, rfl, rfl, _, rfl, iteF ⟨_, rfl, rfl, _, rfl, iteF ⟨_, rfl, rfl, _, rfl, iteF ⟨_, rfl, rfl, _, rfl, iteF ⟨_, rfl, rfl, _, rfl, iteF ⟨_, rfl, rfl, _, rfl, iteF
      ⟨_, rfl, p, M, A, g, rfl, hT, q⟩⟩⟩⟩⟩⟩⟩⟩⟩

theorem TermAt.put0 {H : Hp} {p b : Addr} {M : Mir} {A : Ad} {g : Addr → Nat} {o : HO} (T : TermAt C H p M A g) (gb : g b = 0) : TermAt C (upd H b o) p M A g := by
  have n : ∀ {c : Addr} {x : Nat}, g c = x → x ≠ 0 → c ≠ b := fun hc hx => ne_tag hc gb hx
  exact ⟨by rw [upd_ne (n T.gp (by decide))]; exact T.ins, by rw [upd_ne (n T.gal (by decide))]; exact T.al, by rw [upd_ne (n T.ggi (by decide))]; exact T.gi, by rw [upd_ne (n T.ggo (by decide))]; exact T.go, by rw [upd_ne (n T.gse (by decide))]; exact T.se, by rw [upd_ne (n T.gta (by decide))]; exact T.ta,
    fun i h => by rw [upd_ne (n (T.galI i h) (by omega))]; exact T.alI i h, fun i h => by rw [upd_ne (n (T.ggiI i h) (by omega))]; exact T.giI i h, fun i h => by rw [upd_ne (n (T.ggoI i h) (by omega))]; exact T.goI i h, T.gp, T.gal, T.ggi, T.ggo, T.gse, T.gta, T.galI, T.ggiI, T.ggoI, fun c h => T.fr c (upd_none h)⟩
/-- the list that was handed in; an: what is answered -/
def ReqAt (K : PySem.W.Frag) (H : Hp) (g : Addr → Nat) (an c : Addr) (xs : List V) : Prop := (∃ o, H c = some o ∧ g c = 0 ∧ c ≠ an ∧ ∀ H' : Hp, H' c = some o → SqL K H' c xs) ∨ ∀ H' : Hp, SqL K H' c xs
theorem ReqAt.seq {H : Hp} {g : Addr → Nat} {an c : Addr} {xs : List V} (r : ReqAt K H g an c xs) : SqL K H c xs := by
  rcases r with ⟨o, h, _, _, k⟩ | k
  · exact k H h
  · exact k H
theorem ReqAt.frm {H H' : Hp} {g g' : Addr → Nat} {an c : Addr} {xs : List V} (r : ReqAt K H g an c xs) (F : Frm H g H' g') : ReqAt K H' g' an c xs := by
  rcases r with ⟨o, h, z, n, k⟩ | k
  · exact .inl ⟨o, (F c o h z).1, (F c o h z).2, n, k⟩
  · exact .inr k
theorem ReqAt.put {H : Hp} {g : Addr → Nat} {an c : Addr} {xs : List V} {u : HO} (r : ReqAt K H g an c xs) : ReqAt K (upd H an u) g an c xs := by
  rcases r with ⟨o, h, z, n, k⟩ | k
  · exact .inl ⟨o, by rw [upd_ne n]; exact h, z, n, k⟩
  · exact .inr k
theorem req_of {H H1 : Hp} {g : Addr → Nat} {an c : Addr} {xs : List V} (h : SqL K H c xs) (k : ∀ b o, H b = some o → H1 b = some o ∧ g b = 0) (n : H1 an = none) : ReqAt K H1 g an c xs := by
  rcases h with (h | ⟨o, h⟩) | h
  · exact .inl ⟨_, (k c _ h).1, (k c _ h).2, ne_of_none (k c _ h).1 n, fun H' z => .inl (.inl z)⟩
  · exact .inl ⟨_, (k c _ h).1, (k c _ h).2, ne_of_none (k c _ h).1 n, fun H' z => .inl (.inr ⟨o, z⟩)⟩
  · exact .inr fun H' => .inr h
theorem cut_mid (ns : List Int) {k L : Nat} (h : k + L ≤ ns.length) : cutV (ns.map V.int) (some (k : Int)) (some ((k : Int) + (L : Int))) = ((ns.drop k).take L).map V.int := by
  unfold cutV
  rw [HT.sIx_nat, ← Int.natCast_add, HT.sIx_nat, List.length_map, Nat.min_eq_left (show k ≤ ns.length by omega), Nat.min_eq_left h, Nat.add_sub_cancel_left, ← List.map_drop, ← List.map_take]
def spAnswers (K : PySem.W.Frag) : Sp := fun vs H Q _ => ∃ (c : Addr) (ns : List Int), vs = [.ref c] ∧ SqL K H c (ns.map V.int) ∧ PySa67.answers_asked ns = true ∧ ∀ H' a, H' a = some (.lst ((PySa67.answers ns).map V.int)) → Q (.ref a) H'
theorem sc_answers : FnScope ["calls", "terminal", "answered", "place", "length", "numbers"] ["calls"] (defScope (top 103)) := ⟨rfl, rfl, rfl, by decide +kernel, rfl, by decide +kernel, by decide +kernel⟩
theorem fn_answers (T : Txt K mg C) {f : Addr} {fd : FuncData} (F : Fun K "answers" "answers" (top 103) f fd) : FnOk P w K mg base CX0 13 f fd ["calls"] (spAnswers K) := by
  refine F.ok sc_answers (fun vs H Q E h => ?_) (fun cdv A outer s H vs Q E hr h => ?_)
  · obtain ⟨c, ns, rfl, _⟩ := h
    rfl
  obtain ⟨c, ns, rfl, hS, hask, q⟩ := h
  refine ⟨_, (pss_cons (ps_set (i := 1) sc_answers.nd rfl (Or.inl rfl) (pe_new T hr))
      (pss_cons (ps_set (i := 2) sc_answers.nd rfl (Or.inl rfl) (pe_lst pa_nil))
      (pss_cons (ps_set (i := 3) sc_answers.nd rfl (Or.inl rfl) pe_int)
      (pss_cons (ps_while PassesOwn.never (pt_cmpR op_lt (pv 3) (pe_callB call_len_seq (by rfl) T.b_len PySem.boot_len (pa_cons (pv 0) pa_nil)) (nomark _)) (pss_cons (ps_set (i := 4) sc_answers.nd rfl (Or.inl rfl) (pe_kn (ok_call_length T) hr (pa_cons (pv 0) (pa_cons (pv 3) pa_nil))))
      (pss_cons (ps_set (i := 5) sc_answers.nd rfl (Or.inl rfl) (pe_kn (ok_answer T) hr (pa_cons (pv 1) (pa_cons (pe_slice sl_list (pv 0) (po_some (pv 3)) (po_some (pe_op op_add (pv 3) (pv 4)))) pa_nil))))
      (pss_cons (ps_expr (pe_bm PySem.F.plainAttrs_list PySem.F.slot_list_append PySem.F.type_list_append mt_append (pv 2) (pa_cons (pe_callB call_len_seq (by rfl) T.b_len PySem.boot_len (pa_cons (pv 5) pa_nil)) pa_nil)))
      (pss_cons (ps_expr (pe_bm PySem.F.plainAttrs_list PySem.F.slot_list_extend PySem.F.type_list_extend mt_extend (pv 2) (pa_cons (pv 5) pa_nil)))
      (pss_one (ps_set (i := 3) sc_answers.nd rfl (Or.inl rfl) (pe_op op_add (pv 3) (pv 4)))))))))
      (pss_one (ps_ret (pv 2))))))), ?_⟩
  intro x dx nx ndx nex
  refine ⟨x, dx, rfl, upd_same, fun H1 A1 g1 T1 F1 => ⟨rfl, ?_⟩⟩
  have K1 : ∀ b o, H b = some o → H1 b = some o ∧ g1 b = 0 := fun b o e => F1 b o (ne_of_none e nx) (by rw [upd_ne (ne_of_none e nx), upd_ne (ne_of_none e ndx)]; exact e)
  refine ⟨Nat.zero_le _, fun an han => ?_⟩
  have R1 := (req_of hS K1 han).put (u := .lst [])
  have gan : g1 an = 0 := T1.fr an han
  have T2 := T1.put0 (o := .lst []) gan
  refine ⟨fun m σ' H' => ∃ (k : Nat) (out : List Int) (M : Mir) (A : Ad) (g : Addr → Nat) (v4 v5 : Option V), m = ns.length - k ∧ σ' = [some (.ref c), some (.ref x), some (.ref an), some (.int (k : Int)), v4, v5] ∧ TermAt C H' x M A g ∧ Left ns k out M ∧ H' an = some (.lst (out.map V.int)) ∧ g an = 0 ∧ ReqAt K H' g an c (ns.map V.int),
    ⟨ns.length, 0, [], begun 0, A1, g1, none, none, rfl, rfl, T2, Left.start hask, upd_same, gan, R1⟩, ?_⟩
  rintro m σ' H' ⟨k, out, M, A, g, v4, v5, rfl, rfl, hT, L, ho, go, R⟩
  refine ⟨_, rfl, _, rfl, c, _, rfl, .inl R.seq, _, _, rfl, rfl, _, rfl, ?_⟩
  have el : ((ns.map V.int).length : Int) = (ns.length : Int) := by rw [List.length_map]
  refine ite2 (fun h => ?_) fun h => ?_
  · have h : (k : Int) < ((ns.map V.int).length : Int) := of_decide_eq_true h
    rw [el] at h
    obtain ⟨cl, M', l, hcl, hcall, hL, hpos, L', hlen, hl⟩ := L.next (by omega)
    have hle := L'.le
    refine ⟨fun σ2 H2 => ∃ (A2 : Ad) (g2 : Addr → Nat) (v4 v5 : Option V), σ2 = [some (.ref c), some (.ref x), some (.ref an), some (.int ((k + cl.length : Nat) : Int)), v4, v5] ∧ TermAt C H2 x M' A2 g2 ∧ H2 an = some (.lst ((out ++ (l.length : Int) :: l).map V.int)) ∧ g2 an = 0 ∧ ReqAt K H2 g2 an c (ns.map V.int),
      fun σ2 H2 ⟨A2, g2, v4, v5, e, t2, h2, g0, r2⟩ => ⟨ns.length - (k + cl.length), by omega, k + cl.length, _, M', A2, g2, v4, v5, rfl, e, t2, L', h2, g0, r2⟩, ?_⟩
    refine ⟨_, rfl, _, rfl, c, ns, k, cl.length, rfl, R.seq, hL, ?_⟩
    refine ⟨_, rfl, _, rfl, _, rfl, _, rfl, _, rfl, _, rfl, _, _, rfl, rfl, _, rfl, c, _, rfl, R.seq, fun d hd => ?_⟩
    have ec : cutV (ns.map V.int) (some (k : Int)) (some ((k : Int) + (cl.length : Int))) = cl.map V.int := by
      rw [cut_mid ns hle, hcl, List.take_left]
    have S1 := same_new (o := .lst (cutV (ns.map V.int) (some (k : Int)) (some ((k : Int) + (cl.length : Int))))) hd
    refine ⟨x, M, A, g, d, cl, M', l, rfl, hT.grow S1, L.wf, L.ph, by rw [upd_same, ec], hcall, fun H2 A2 g2 a t2 F2 ha na => ?_⟩
    have F3 : Frm H' g H2 g2 := (Frm.same g S1).trans F2
    have o2 := F3 an _ ho go
    have nan : an ≠ a := na an _ (S1 _ _ ho) go
    refine ⟨_, rfl, .inl ⟨rfl, _, SqL.of o2.1⟩, _, rfl, a, _, rfl, .inl (SqL.of ha), an, _, _, rfl, rfl, o2.1, ?_, ?_⟩
    · rw [List.length_map]
      exact Nat.lt_of_lt_of_le (show out.length < 700000 by omega) (by decide)
    refine ⟨_, rfl, .inl ⟨rfl, _, SqL.of upd_same⟩, _, rfl, an, a, _, _, rfl, rfl, upd_same, by rw [upd_ne nan.symm]; exact ha, ?_, ?_⟩
    · rw [List.length_append, List.length_map, List.length_map]
      exact Nat.le_trans (show out.length + 1 + l.length ≤ 700000 by omega) (by decide)
    refine ⟨_, rfl, _, rfl, _, _, rfl, rfl, A2, g2, some (.int (cl.length : Int)), some (.ref a), ?_, (t2.put0 o2.2).put0 o2.2, ?_, o2.2, (R.frm F3).put.put⟩
    · rw [Int.natCast_add]
      rfl
    · rw [upd_same, List.map_append, List.map_cons, List.length_map, List.append_assoc]
      rfl
  · have h : ¬ (k : Int) < ((ns.map V.int).length : Int) := fun z => h (decide_eq_true z)
    rw [el] at h
    have e := L.fin (by omega)
    subst e
    exact ⟨_, rfl, q H' an ho⟩
end
end Bt
end
section
set_option Elab.async false
set_option linter.all false
set_option maxRecDepth 100000
set_option maxHeartbeats 4000000
/-! What the top has written, and the row. -/
namespace Bt
open PySem PySem.Spec PyProof.Rows L2
open PySem.W (Codec)
/-- what the class and the tuple of the top are -/
structure TxtC (K : PySem.W.Frag) (mg : Str → Option Value) (C : Addr) : Prop where
  cl : Cls K C
  mgC : mg "Terminal" = some (.ref C)
  nF : ∀ f ∈ names, NoAttr K C f
  m0 : ∃ (f : Addr) (fd : FuncData), Mk K C f ∧ Fun K "__init__" "Terminal.__init__" (inClass (top 39) 0) f fd
  m1 : ∃ (f : Addr) (fd : FuncData), Meth K C "begin_anew" f ∧ Fun K "begin_anew" "Terminal.begin_anew" (inClass (top 39) 1) f fd
  m2 : ∃ (f : Addr) (fd : FuncData), Meth K C "drop_command" f ∧ Fun K "drop_command" "Terminal.drop_command" (inClass (top 39) 2) f fd
theorem txtC_mk {K : PySem.W.Frag} {h : Heap} {mg : Str → Option Value} {C : Addr} (X : K.In h) (G : h.Ns mainGlobals mg)
    {f0 f1 f2 : Addr} {od0 an0 od1 an1 od2 an2 : Option Addr} {sl0 sl1 sl2 : Array (Option Value)} {oc0 kV0 dc0 pm0 cd0 ct0 oc1 kV1 dc1 pm1 cd1 ct1 oc2 kV2 dc2 pm2 cd2 ct2 : Value}
    (aC : PySem.W.nsIn K mainGlobals "Terminal" = some (some (.ref C)))
    (pg : PySem.W.plainGet K C Str.empty = true) (hd : PySem.W.hasDictIn K C = true) (po : PySem.W.plainOver K C = true) (sa : PySem.W.findIn K (.ref C) "__setattr__" = some (some (.builtin "object.__setattr__"))) (mk : PySem.W.makesIn K C = true) (kc : PySem.W.keepIn K (.ref C) = true)
    (a0 : PySem.W.findIn K (.ref C) "__init__" = some (some (.ref f0))) (i0 : PySem.W.isFn K (.ref f0) = true) (l0 : K.lookup f0 = some ⟨oc0, od0, .func (PySem.W.fnOf "__init__" "Terminal.__init__" (defArgs (inClass (top 39) 0)) (defBody (inClass (top 39) 0)) (defScope (inClass (top 39) 0)) .none kV0 dc0 pm0 an0 cd0 ct0), sl0⟩) (c0 : PySem.W.codeIn K cd0 "Terminal.__init__" = true) (k0 : PySem.W.keepIn K (.ref f0) = true)
    (a1 : PySem.W.findIn K (.ref C) "begin_anew" = some (some (.ref f1))) (i1 : PySem.W.isFn K (.ref f1) = true) (l1 : K.lookup f1 = some ⟨oc1, od1, .func (PySem.W.fnOf "begin_anew" "Terminal.begin_anew" (defArgs (inClass (top 39) 1)) (defBody (inClass (top 39) 1)) (defScope (inClass (top 39) 1)) .none kV1 dc1 pm1 an1 cd1 ct1), sl1⟩) (c1 : PySem.W.codeIn K cd1 "Terminal.begin_anew" = true) (k1 : PySem.W.keepIn K (.ref f1) = true)
    (a2 : PySem.W.findIn K (.ref C) "drop_command" = some (some (.ref f2))) (i2 : PySem.W.isFn K (.ref f2) = true) (l2 : K.lookup f2 = some ⟨oc2, od2, .func (PySem.W.fnOf "drop_command" "Terminal.drop_command" (defArgs (inClass (top 39) 2)) (defBody (inClass (top 39) 2)) (defScope (inClass (top 39) 2)) .none kV2 dc2 pm2 an2 cd2 ct2), sl2⟩) (c2 : PySem.W.codeIn K cd2 "Terminal.drop_command" = true) (k2 : PySem.W.keepIn K (.ref f2) = true)
    (n0 : PySem.W.findIn K (.ref C) "address" = some none)
    (n1 : PySem.W.findIn K (.ref C) "flags" = some none)
    (n2 : PySem.W.findIn K (.ref C) "allowed" = some none)
    (n3 : PySem.W.findIn K (.ref C) "given" = some none)
    (n4 : PySem.W.findIn K (.ref C) "got" = some none)
    (n5 : PySem.W.findIn K (.ref C) "messages" = some none)
    (n6 : PySem.W.findIn K (.ref C) "errors" = some none)
    (n7 : PySem.W.findIn K (.ref C) "last_command" = some none)
    (n8 : PySem.W.findIn K (.ref C) "last_status" = some none)
    (n9 : PySem.W.findIn K (.ref C) "step" = some none)
    (n10 : PySem.W.findIn K (.ref C) "error" = some none)
    (n11 : PySem.W.findIn K (.ref C) "to_all" = some none)
    (n12 : PySem.W.findIn K (.ref C) "other_wire_off" = some none)
    (n13 : PySem.W.findIn K (.ref C) "hushed" = some none)
    (n14 : PySem.W.findIn K (.ref C) "to_send" = some none)
    (n15 : PySem.W.findIn K (.ref C) "awaited" = some none)
    (n16 : PySem.W.findIn K (.ref C) "command" = some none)
    (n17 : PySem.W.findIn K (.ref C) "heard_at" = some none)
    (n18 : PySem.W.findIn K (.ref C) "sender" = some none)
    (n19 : PySem.W.findIn K (.ref C) "taken" = some none)
    : TxtC K mg C := by
  refine ⟨⟨pg, hd, po, sa⟩, PySem.W.mg_of X G aC, fun f hf => ?_, ⟨f0, _, ⟨mk, a0, i0, kc⟩, fun_mk l0 c0 k0⟩, ⟨f1, _, ⟨a1, i1, k1⟩, fun_mk l1 c1 k1⟩, ⟨f2, _, ⟨a2, i2, k2⟩, fun_mk l2 c2 k2⟩⟩
  unfold names at hf
  simp only [List.mem_cons, List.not_mem_nil, or_false] at hf
  rcases hf with rfl | rfl | rfl | rfl | rfl | rfl | rfl | rfl | rfl | rfl | rfl | rfl | rfl | rfl | rfl | rfl | rfl | rfl | rfl | rfl
  · exact n0
  · exact n1
  · exact n2
  · exact n3
  · exact n4
  · exact n5
  · exact n6
  · exact n7
  · exact n8
  · exact n9
  · exact n10
  · exact n11
  · exact n12
  · exact n13
  · exact n14
  · exact n15
  · exact n16
  · exact n17
  · exact n18
  · exact n19
theorem lens_mk {K : PySem.W.Frag} {h : Heap} {mg : Str → Option Value} {a : Addr} {od : Option Addr} {sl : Array (Option Value)} {n : Nat} {t0 t1 t2 t3 t4 t5 t6 t7 t8 : Tok} (X : K.In h) (G : h.Ns mainGlobals mg)
    (e : PySem.W.nsIn K mainGlobals "CALL_LENGTHS" = some (some (.ref a)))
    (l : K.lookup a = some ⟨.type "tuple", od, .seq #[.int 2 t0, .int 5 t1, .int 2 t2, .int 1 t3, .int 3 t4, .int 2 t5, .int 2 t6, .int 4 t7, .int 1 t8] n, sl⟩) :
    ∃ a, mg "CALL_LENGTHS" = some (.ref a) ∧ ∀ H, SqT K H a [V.int 2, V.int 5, V.int 2, V.int 1, V.int 3, V.int 2, V.int 2, V.int 4, V.int 1] :=
  ⟨a, PySem.W.mg_of X G e, fun H => .inr ⟨_, _, n, l, rfl, rfl, by show 9 ≤ sizeLine; decide,
    .cons ⟨t0, rfl⟩ (.cons ⟨t1, rfl⟩ (.cons ⟨t2, rfl⟩ (.cons ⟨t3, rfl⟩ (.cons ⟨t4, rfl⟩ (.cons ⟨t5, rfl⟩ (.cons ⟨t6, rfl⟩ (.cons ⟨t7, rfl⟩ (.cons ⟨t8, rfl⟩ .nil))))))))⟩⟩

theorem fin_mk {P : Program} {w : World} {K : PySem.W.Frag} {h : Heap} {mg : Str → Option Value} {fa : Addr} (X : K.In h) (G : h.Ns mainGlobals mg) (hfa : mg "answers" = some (.ref fa)) (TC : ∃ C, TxtC K mg C)
    (TL : ∃ a, mg "CALL_LENGTHS" = some (.ref a) ∧ ∀ H, SqT K H a [V.int 2, V.int 5, V.int 2, V.int 1, V.int 3, V.int 2, V.int 2, V.int 4, V.int 1])
    (b_len : mg "len" = none) (b_sum : mg "sum" = none) (b_range : mg "range" = none)
    (c_COMMAND_SYNC : Cn mg "COMMAND_SYNC" 0)
    (c_DATA_SYNC : Cn mg "DATA_SYNC" 1)
    (c_ALL_TERMINALS : Cn mg "ALL_TERMINALS" 31)
    (c_TIME_SPAN : Cn mg "TIME_SPAN" 4294967296)
    (c_NOTHING : Cn mg "NOTHING" 0)
    (c_FIRST_WORD : Cn mg "FIRST_WORD" 1)
    (c_SENDER_STATUS : Cn mg "SENDER_STATUS" 2)
    (c_DATA_WORD : Cn mg "DATA_WORD" 3)
    (c_TO_RECEIVE : Cn mg "TO_RECEIVE" 0)
    (c_TO_TRANSMIT : Cn mg "TO_TRANSMIT" 1)
    (c_TO_RECEIVE_TO_ALL : Cn mg "TO_RECEIVE_TO_ALL" 2)
    (c_LOW_MODES : Cn mg "LOW_MODES" 3)
    (c_HIGH_MODES : Cn mg "HIGH_MODES" 4)
    (c_EVERY_COUNT : Cn mg "EVERY_COUNT" 4294967295)
    (c_MODES_0_TO_8 : Cn mg "MODES_0_TO_8" 511)
    (c_MODES_16_TO_21 : Cn mg "MODES_16_TO_21" 4128768)
    (c_TAKE_CONTROL : Cn mg "TAKE_CONTROL" 0)
    (c_SYNCHRONIZE : Cn mg "SYNCHRONIZE" 1)
    (c_REPEAT_STATUS : Cn mg "REPEAT_STATUS" 2)
    (c_OTHER_WIRE_OFF : Cn mg "OTHER_WIRE_OFF" 4)
    (c_OTHER_WIRE_ON : Cn mg "OTHER_WIRE_ON" 5)
    (c_HUSH_FAULT : Cn mg "HUSH_FAULT" 6)
    (c_SHOW_FAULT : Cn mg "SHOW_FAULT" 7)
    (c_RESET : Cn mg "RESET" 8)
    (c_FIRST_HIGH_MODE : Cn mg "FIRST_HIGH_MODE" 16)
    (c_SERVICE_WORD : Cn mg "SERVICE_WORD" 16)
    (c_SET_STEP : Cn mg "SET_STEP" 17)
    (c_REPEAT_COMMAND : Cn mg "REPEAT_COMMAND" 18)
    (c_TEST_WORD : Cn mg "TEST_WORD" 19)
    (c_CHOSEN_WIRE_OFF : Cn mg "CHOSEN_WIRE_OFF" 20)
    (c_CHOSEN_WIRE_ON : Cn mg "CHOSEN_WIRE_ON" 21)
    (c_SHORTEST_GAP : Cn mg "SHORTEST_GAP" 20)
    (c_LONGEST_GAP : Cn mg "LONGEST_GAP" 23)
    (c_LONGEST_STATUS_GAP : Cn mg "LONGEST_STATUS_GAP" 57)
    (c_COUNTER_SPAN : Cn mg "COUNTER_SPAN" 65536)
    (c_BEGIN : Cn mg "BEGIN" 0)
    (c_WORD : Cn mg "WORD" 1)
    (c_TICK : Cn mg "TICK" 2)
    (c_OUTPUT : Cn mg "OUTPUT" 3)
    (c_GIVE : Cn mg "GIVE" 4)
    (c_GET : Cn mg "GET" 5)
    (c_SET_FLAGS : Cn mg "SET_FLAGS" 6)
    (c_ALLOW : Cn mg "ALLOW" 7)
    (c_TOLD : Cn mg "TOLD" 8)
    (c_HIGHEST_ADDRESS : Cn mg "HIGHEST_ADDRESS" 30)
    (c_HIGHEST_SUB : Cn mg "HIGHEST_SUB" 31)
    (c_LONGEST_ROW : Cn mg "LONGEST_ROW" 32)
    (c_HIGHEST_FLAGS : Cn mg "HIGHEST_FLAGS" 31)
    (g_bit_of : Glob K mg "bit_of" (top 5))
    (g_address_of : Glob K mg "address_of" (top 6))
    (g_is_to_all : Glob K mg "is_to_all" (top 7))
    (g_is_to_transmit : Glob K mg "is_to_transmit" (top 8))
    (g_sub_of : Glob K mg "sub_of" (top 9))
    (g_count_of : Glob K mg "count_of" (top 10))
    (g_is_mode : Glob K mg "is_mode" (top 11))
    (g_how_many_words : Glob K mg "how_many_words" (top 12))
    (g_time_between : Glob K mg "time_between" (top 13))
    (g_ones_in : Glob K mg "ones_in" (top 14))
    (g_on_the_wire : Glob K mg "on_the_wire" (top 15))
    (g_is_busy : Glob K mg "is_busy" (top 17))
    (g_may_hand_over_control : Glob K mg "may_hand_over_control" (top 18))
    (g_shown_fault : Glob K mg "shown_fault" (top 19))
    (g_status_of : Glob K mg "status_of" (top 20))
    (g_send : Glob K mg "send" (top 21))
    (g_reply : Glob K mg "reply" (top 22))
    (g_reply_error : Glob K mg "reply_error" (top 23))
    (g_fetch : Glob K mg "fetch" (top 24))
    (g_allowed_at_the_beginning : Glob K mg "allowed_at_the_beginning" (top 38))
    (g_is_mode_allowed : Glob K mg "is_mode_allowed" (top 56))
    (g_asks_what_was_before : Glob K mg "asks_what_was_before" (top 57))
    (g_sends_a_word : Glob K mg "sends_a_word" (top 58))
    (g_takes_a_word : Glob K mg "takes_a_word" (top 59))
    (g_do_mode : Glob K mg "do_mode" (top 60))
    (g_is_low_mode_in_order : Glob K mg "is_low_mode_in_order" (top 61))
    (g_do_low_mode : Glob K mg "do_low_mode" (top 62))
    (g_change_by_low_mode : Glob K mg "change_by_low_mode" (top 63))
    (g_do_sending_mode : Glob K mg "do_sending_mode" (top 64))
    (g_first_given : Glob K mg "first_given" (top 65))
    (g_finish_taking_mode : Glob K mg "finish_taking_mode" (top 66))
    (g_hear : Glob K mg "hear" (top 72))
    (g_is_for : Glob K mg "is_for" (top 73))
    (g_notice_silence : Glob K mg "notice_silence" (top 74))
    (g_fail : Glob K mg "fail" (top 75))
    (g_count_error : Glob K mg "count_error" (top 76))
    (g_begin_command : Glob K mg "begin_command" (top 77))
    (g_await_words : Glob K mg "await_words" (top 78))
    (g_hear_awaited : Glob K mg "hear_awaited" (top 79))
    (g_hear_data : Glob K mg "hear_data" (top 80))
    (g_hear_another_terminal : Glob K mg "hear_another_terminal" (top 81))
    (g_finish_if_all_there : Glob K mg "finish_if_all_there" (top 82))
    (g_is_allowed : Glob K mg "is_allowed" (top 83))
    (g_finish_receiving : Glob K mg "finish_receiving" (top 84))
    (g_transmit : Glob K mg "transmit" (top 85))
    (g_words_to_transmit : Glob K mg "words_to_transmit" (top 86))
    (g_answers : Glob K mg "answers" (top 103))
    (g_call_length : Glob K mg "call_length" (top 104))
    (g_answer : Glob K mg "answer" (top 105))
    (g_done : Glob K mg "done" (top 106))
    (g_refusal : Glob K mg "refusal" (top 107))
    (g_counted : Glob K mg "counted" (top 108))
    (g_is_sub : Glob K mg "is_sub" (top 109))
    (g_begin : Glob K mg "begin" (top 110))
    (g_take_word : Glob K mg "take_word" (top 111))
    (g_tick : Glob K mg "tick" (top 112))
    (g_output : Glob K mg "output" (top 113))
    (g_give : Glob K mg "give" (top 114))
    (g_get_words : Glob K mg "get_words" (top 115))
    (g_set_flags : Glob K mg "set_flags" (top 116))
    (g_allow : Glob K mg "allow" (top 117))
    (g_has_allowed_counts : Glob K mg "has_allowed_counts" (top 118))
    (g_told : Glob K mg "told" (top 119))
    : ∃ fd : FuncData, (∀ (s : Shared) (us : List Value), us.length = (["calls"] : List Str).length → BindsTo s fd ⟨us, []⟩ ((["calls"] : List Str).zip us)) ∧ ∀ base : Heap, K.In base → base.Ns mainGlobals mg → FnOk P w K mg base CX0 13 fa fd ["calls"] (spAnswers K) := by
  obtain ⟨C, TC⟩ := TC
  have T : Txt K mg C := ⟨TC.cl, TC.mgC, TC.nF, b_len, b_sum, b_range, TC.m0, TC.m1, TC.m2, TL, c_COMMAND_SYNC, c_DATA_SYNC, c_ALL_TERMINALS, c_TIME_SPAN, c_NOTHING, c_FIRST_WORD, c_SENDER_STATUS, c_DATA_WORD, c_TO_RECEIVE, c_TO_TRANSMIT, c_TO_RECEIVE_TO_ALL, c_LOW_MODES, c_HIGH_MODES, c_EVERY_COUNT, c_MODES_0_TO_8, c_MODES_16_TO_21, c_TAKE_CONTROL, c_SYNCHRONIZE, c_REPEAT_STATUS, c_OTHER_WIRE_OFF, c_OTHER_WIRE_ON, c_HUSH_FAULT, c_SHOW_FAULT, c_RESET, c_FIRST_HIGH_MODE, c_SERVICE_WORD, c_SET_STEP, c_REPEAT_COMMAND, c_TEST_WORD, c_CHOSEN_WIRE_OFF, c_CHOSEN_WIRE_ON, c_SHORTEST_GAP, c_LONGEST_GAP, c_LONGEST_STATUS_GAP, c_COUNTER_SPAN, c_BEGIN, c_WORD, c_TICK, c_OUTPUT, c_GIVE, c_GET, c_SET_FLAGS, c_ALLOW, c_TOLD, c_HIGHEST_ADDRESS, c_HIGHEST_SUB, c_LONGEST_ROW, c_HIGHEST_FLAGS, g_bit_of, g_address_of, g_is_to_all, g_is_to_transmit, g_sub_of, g_count_of, g_is_mode, g_how_many_words, g_time_between, g_ones_in, g_on_the_wire, g_is_busy, g_may_hand_over_control, g_shown_fault, g_status_of, g_send, g_reply, g_reply_error, g_fetch, g_allowed_at_the_beginning, g_is_mode_allowed, g_asks_what_was_before, g_sends_a_word, g_takes_a_word, g_do_mode, g_is_low_mode_in_order, g_do_low_mode, g_change_by_low_mode, g_do_sending_mode, g_first_given, g_finish_taking_mode, g_hear, g_is_for, g_notice_silence, g_fail, g_count_error, g_begin_command, g_await_words, g_hear_awaited, g_hear_data, g_hear_another_terminal, g_finish_if_all_there, g_is_allowed, g_finish_receiving, g_transmit, g_words_to_transmit, g_answers, g_call_length, g_answer, g_done, g_refusal, g_counted, g_is_sub, g_begin, g_take_word, g_tick, g_output, g_give, g_get_words, g_set_flags, g_allow, g_has_allowed_counts, g_told⟩
  obtain ⟨f, fd, hm, F⟩ := g_answers.ex
  have e := hfa.symm.trans hm
  cases e
  have F' := F
  obtain ⟨oc, od, kV, doc, pm, an, cdv, ct, osl, rfl, lk, hcd⟩ := F.ex
  exact ⟨_, fun s us hu => match us, hu with | [_], _ => .of_eq rfl, fun base _ _ => fn_answers T F'⟩
end Bt
end
section
/-! The head's twins of the heap's objects are not wanted: the kernel reads the texts as they stand (the compiled file would be too great with them). -/
theorem PySem.W.Fast.tw5886718665422172993 : True := trivial
theorem PySem.W.Fast.tw2555901533065638377 : True := trivial
theorem PySem.W.Fast.tw10763491563436936774 : True := trivial
theorem PySem.W.Fast.tw14277572774537668924 : True := trivial
theorem PySem.W.Fast.tw7659026528336344683 : True := trivial
theorem PySem.W.Fast.tw14735929722748271330 : True := trivial
theorem PySem.W.Fast.tw13677146966704519472 : True := trivial
theorem PySem.W.Fast.tw17873687140231068812 : True := trivial
theorem PySem.W.Fast.tw1269224043026672085 : True := trivial
theorem PySem.W.Fast.tw15863204434363889431 : True := trivial
theorem PySem.W.Fast.tw17287574653430394706 : True := trivial
theorem PySem.W.Fast.tw16104876239722220396 : True := trivial
theorem PySem.W.Fast.tw16277913023261172158 : True := trivial
theorem PySem.W.Fast.tw992797752585144244 : True := trivial
theorem PySem.W.Fast.tw2305898935607017060 : True := trivial
theorem PySem.W.Fast.tw8905730114815237008 : True := trivial
theorem PySem.W.Fast.tw1073723322160573623 : True := trivial
theorem PySem.W.Fast.tw15057563908186266150 : True := trivial
theorem PySem.W.Fast.tw18408734624529670088 : True := trivial
theorem PySem.W.Fast.tw11081711799866065564 : True := trivial
theorem PySem.W.Fast.tw9970497691603014741 : True := trivial
theorem PySem.W.Fast.tw16243482767620128653 : True := trivial
theorem PySem.W.Fast.tw9834424856560773011 : True := trivial
theorem PySem.W.Fast.tw2184947779817948984 : True := trivial
theorem PySem.W.Fast.tw8886701236912627331 : True := trivial
theorem PySem.W.Fast.tw7006626542387372893 : True := trivial
theorem PySem.W.Fast.tw7749298267800662610 : True := trivial
theorem PySem.W.Fast.tw8293292013736043806 : True := trivial
theorem PySem.W.Fast.tw12711335369938075304 : True := trivial
theorem PySem.W.Fast.tw1924227336227774101 : True := trivial
theorem PySem.W.Fast.tw3591528928267782576 : True := trivial
theorem PySem.W.Fast.tw1347822301943358086 : True := trivial
theorem PySem.W.Fast.tw11604318108873906717 : True := trivial
theorem PySem.W.Fast.tw7824054968845251856 : True := trivial
theorem PySem.W.Fast.tw5415661653095973397 : True := trivial
theorem PySem.W.Fast.tw11663886468985568158 : True := trivial
theorem PySem.W.Fast.tw5787944784506223442 : True := trivial
theorem PySem.W.Fast.tw660939309159303485 : True := trivial
theorem PySem.W.Fast.tw16460593962636384879 : True := trivial
theorem PySem.W.Fast.tw12095854867917100296 : True := trivial
theorem PySem.W.Fast.tw10611836820160864015 : True := trivial
theorem PySem.W.Fast.tw17135547235437039671 : True := trivial
theorem PySem.W.Fast.tw14329781058977509736 : True := trivial
theorem PySem.W.Fast.tw8626516273280661048 : True := trivial
theorem PySem.W.Fast.tw10185501934974798252 : True := trivial
theorem PySem.W.Fast.tw13767652397584491672 : True := trivial
theorem PySem.W.Fast.tw5466159419358221593 : True := trivial
theorem PySem.W.Fast.tw15972349488991127717 : True := trivial
theorem PySem.W.Fast.tw1887320765792856728 : True := trivial
theorem PySem.W.Fast.tw16175758343931568861 : True := trivial
theorem PySem.W.Fast.tw8441682618409000690 : True := trivial
theorem PySem.W.Fast.tw13480990456204019789 : True := trivial
theorem PySem.W.Fast.tw15224778143201272561 : True := trivial
theorem PySem.W.Fast.tw4774252758108737710 : True := trivial
theorem PySem.W.Fast.tw14021999440486456249 : True := trivial
theorem PySem.W.Fast.tw4019882796586117352 : True := trivial
theorem PySem.W.Fast.tw13309994182263604636 : True := trivial
theorem PySem.W.Fast.tw2234641877816130771 : True := trivial
theorem PySem.W.Fast.tw17783723900939617134 : True := trivial
theorem PySem.W.Fast.tw9050441406986546737 : True := trivial
theorem PySem.W.Fast.tw1939443756530199354 : True := trivial
theorem PySem.W.Fast.tw11179610180288025307 : True := trivial
theorem PySem.W.Fast.tw17343146946728500545 : True := trivial
theorem PySem.W.Fast.tw11032175944024654231 : True := trivial
theorem PySem.W.Fast.tw2859320632643314986 : True := trivial
theorem PySem.W.Fast.tw7161431569147480034 : True := trivial
theorem PySem.W.Fast.tw10074464433633921158 : True := trivial
theorem PySem.W.Fast.tw17255896447933694059 : True := trivial
theorem PySem.W.Fast.tw3661134410762553519 : True := trivial
theorem PySem.W.Fast.tw9692478507976383075 : True := trivial
theorem PySem.W.Fast.tw12452069304093312089 : True := trivial
theorem PySem.W.Fast.tw3318218608599470480 : True := trivial
theorem PySem.W.Fast.tw2374033029411294539 : True := trivial
theorem PySem.W.Fast.tw15762354882021683113 : True := trivial
theorem PySem.W.Fast.tw3079089932521378189 : True := trivial
theorem PySem.W.Fast.tw1714555248195078178 : True := trivial
theorem PySem.W.Fast.tw7793272340000991046 : True := trivial
theorem PySem.W.Fast.tw2137250818805390658 : True := trivial
theorem PySem.W.Fast.tw11481809352787556345 : True := trivial
theorem PySem.W.Fast.tw14319335352359340745 : True := trivial
theorem PySem.W.Fast.tw11666001950321123786 : True := trivial
theorem PySem.W.Fast.tw7013937777226432956 : True := trivial
theorem PySem.W.Fast.tw3102033854736239955 : True := trivial
theorem PySem.W.Fast.tw17066608378130773105 : True := trivial
theorem PySem.W.Fast.tw7227008140127664159 : True := trivial
theorem PySem.W.Fast.tw11965054630316680862 : True := trivial
theorem PySem.W.Fast.tw8185062352896621342 : True := trivial
theorem PySem.W.Fast.tw872665911035376603 : True := trivial
theorem PySem.W.Fast.tw3825068229388097359 : True := trivial
theorem PySem.W.Fast.tw6720309393334108627 : True := trivial
theorem PySem.W.Fast.tw8008806268423465432 : True := trivial
theorem PySem.W.Fast.tw6060995818244714603 : True := trivial
theorem PySem.W.Fast.tw4671204545600725288 : True := trivial
theorem PySem.W.Fast.tw5552689433045551143 : True := trivial
theorem PySem.W.Fast.tw1580809435598083049 : True := trivial
theorem PySem.W.Fast.tw8958329096253990633 : True := trivial
theorem PySem.W.Fast.tw14953162173232682815 : True := trivial
theorem PySem.W.Fast.tw10169372828275541191 : True := trivial
theorem PySem.W.Fast.tw1459800450477491710 : True := trivial
theorem PySem.W.Fast.tw11932140496020466374 : True := trivial
theorem PySem.W.Fast.tw11132028866745637566 : True := trivial
theorem PySem.W.Fast.tw17528626031911821956 : True := trivial
theorem PySem.W.Fast.tw12448799464956982717 : True := trivial
theorem PySem.W.Fast.tw4593153241965132992 : True := trivial
theorem PySem.W.Fast.tw12370389192162484929 : True := trivial
theorem PySem.W.Fast.tw14307107576134808359 : True := trivial
theorem PySem.W.Fast.tw5926943823177868435 : True := trivial
theorem PySem.W.Fast.tw17322986231524754634 : True := trivial
theorem PySem.W.Fast.tw13468481310995289371 : True := trivial
theorem PySem.W.Fast.tw8754280947534230245 : True := trivial
theorem PySem.W.Fast.tw10655855624908855539 : True := trivial
theorem PySem.W.Fast.tw2030370052619357059 : True := trivial
theorem PySem.W.Fast.tw5108654062399113175 : True := trivial
theorem PySem.W.Fast.tw10562680395951743930 : True := trivial
theorem PySem.W.Fast.tw17247770953509692890 : True := trivial
theorem PySem.W.Fast.tw287860549270456660 : True := trivial
theorem PySem.W.Fast.tw5292380554700574058 : True := trivial
theorem PySem.W.Fast.tw11326547811022231305 : True := trivial
theorem PySem.W.Fast.tw17408516384986216111 : True := trivial
theorem PySem.W.Fast.tw15388089146468612055 : True := trivial
theorem PySem.W.Fast.tw546183399333319837 : True := trivial
theorem PySem.W.Fast.tw9597434226553722768 : True := trivial
theorem PySem.W.Fast.tw16023742989226795006 : True := trivial
theorem PySem.W.Fast.tw5968100221152753028 : True := trivial
theorem PySem.W.Fast.tw8419235094956972207 : True := trivial
theorem PySem.W.Fast.tw5354493228665602726 : True := trivial
theorem PySem.W.Fast.tw9930561274945428495 : True := trivial
theorem PySem.W.Fast.tw5552832872515461785 : True := trivial
theorem PySem.W.Fast.tw4447975993663686261 : True := trivial
theorem PySem.W.Fast.tw11675062990713769237 : True := trivial
theorem PySem.W.Fast.tw13485389457483645218 : True := trivial
theorem PySem.W.Fast.tw8239188609309707490 : True := trivial
theorem PySem.W.Fast.tw7968326548771502732 : True := trivial
theorem PySem.W.Fast.tw7236085809811350103 : True := trivial
theorem PySem.W.Fast.tw11151335565616190612 : True := trivial
theorem PySem.W.Fast.tw646691368892733292 : True := trivial
theorem PySem.W.Fast.tw14253134587784446716 : True := trivial
theorem PySem.W.Fast.tw6651760889986871842 : True := trivial
theorem PySem.W.Fast.tw9948993207976934389 : True := trivial
theorem PySem.W.Fast.tw5829731586739834234 : True := trivial
theorem PySem.W.Fast.tw1280905473647471697 : True := trivial
theorem PySem.W.Fast.tw7077395802625627788 : True := trivial
theorem PySem.W.Fast.tw10925205312604216022 : True := trivial
theorem PySem.W.Fast.tw7647454213742084894 : True := trivial
theorem PySem.W.Fast.tw9778205652527900520 : True := trivial
theorem PySem.W.Fast.tw2807749237011739733 : True := trivial
theorem PySem.W.Fast.tw18330412794097023843 : True := trivial
theorem PySem.W.Fast.tw1310622438923640565 : True := trivial
theorem PySem.W.Fast.tw3852964972951418834 : True := trivial
theorem PySem.W.Fast.tw8712921066091791649 : True := trivial
theorem PySem.W.Fast.tw10926891564085059998 : True := trivial
theorem PySem.W.Fast.tw15855509110422607829 : True := trivial
theorem PySem.W.Fast.tw5620174526960755702 : True := trivial
theorem PySem.W.Fast.tw4045876487894240362 : True := trivial
theorem PySem.W.Fast.tw9910470367434152565 : True := trivial
theorem PySem.W.Fast.tw1305966739493609015 : True := trivial
theorem PySem.W.Fast.tw14156571318582820698 : True := trivial
theorem PySem.W.Fast.tw2614779359553927916 : True := trivial
theorem PySem.W.Fast.tw15225587724411406294 : True := trivial
theorem PySem.W.Fast.tw160248419190750868 : True := trivial
theorem PySem.W.Fast.tw1449061226065555008 : True := trivial
theorem PySem.W.Fast.tw4070067762134193226 : True := trivial
theorem PySem.W.Fast.tw8169393836121337687 : True := trivial
theorem PySem.W.Fast.tw2546148716721233980 : True := trivial
theorem PySem.W.Fast.tw4170905984470662119 : True := trivial
theorem PySem.W.Fast.tw10666517317170763605 : True := trivial
theorem PySem.W.Fast.tw4273901881580397375 : True := trivial
theorem PySem.W.Fast.tw3765198195065024739 : True := trivial
theorem PySem.W.Fast.tw2086465501408366128 : True := trivial
theorem PySem.W.Fast.tw2612289062325234825 : True := trivial
theorem PySem.W.Fast.tw1765685153792603331 : True := trivial
theorem PySem.W.Fast.tw8305110520721034436 : True := trivial
theorem PySem.W.Fast.tw3741568605970125283 : True := trivial
theorem PySem.W.Fast.tw13704703735206534087 : True := trivial
theorem PySem.W.Fast.tw10758489800103613876 : True := trivial
theorem PySem.W.Fast.tw12942195426834539776 : True := trivial
theorem PySem.W.Fast.tw14996249533339392520 : True := trivial
theorem PySem.W.Fast.tw15490732741547491854 : True := trivial
theorem PySem.W.Fast.tw15985068174513681793 : True := trivial
theorem PySem.W.Fast.tw3428388696236384747 : True := trivial
theorem PySem.W.Fast.tw7937319693747041372 : True := trivial
theorem PySem.W.Fast.tw16935343253765052575 : True := trivial
theorem PySem.W.Fast.tw15173280034294745675 : True := trivial
theorem PySem.W.Fast.tw13196342536824532002 : True := trivial
theorem PySem.W.Fast.tw4170066785985314634 : True := trivial
theorem PySem.W.Fast.tw4629490107960049636 : True := trivial
theorem PySem.W.Fast.tw15561487845271177896 : True := trivial
theorem PySem.W.Fast.tw8107954095852688506 : True := trivial
theorem PySem.W.Fast.tw8524655357093794128 : True := trivial
theorem PySem.W.Fast.tw7409634482445729289 : True := trivial
theorem PySem.W.Fast.tw15206405184699998310 : True := trivial
theorem PySem.W.Fast.tw9173021292705634670 : True := trivial
theorem PySem.W.Fast.tw9632352285561372376 : True := trivial
theorem PySem.W.Fast.tw4919872921400898700 : True := trivial
theorem PySem.W.Fast.tw7771420412405800437 : True := trivial
theorem PySem.W.Fast.tw10026499450500983013 : True := trivial
theorem PySem.W.Fast.tw15585761703742778101 : True := trivial
theorem PySem.W.Fast.tw14141596197067476271 : True := trivial
theorem PySem.W.Fast.tw14469731053675598123 : True := trivial
theorem PySem.W.Fast.tw4855921575936414699 : True := trivial
theorem PySem.W.Fast.tw3078980376138729237 : True := trivial
theorem PySem.W.Fast.tw3287337197918231099 : True := trivial
theorem PySem.W.Fast.tw2221900692252476320 : True := trivial
theorem PySem.W.Fast.tw13472362603838914366 : True := trivial
theorem PySem.W.Fast.tw13406842847893310476 : True := trivial
theorem PySem.W.Fast.tw5536521553148789136 : True := trivial
theorem PySem.W.Fast.tw7177402013263199636 : True := trivial
theorem PySem.W.Fast.tw15472620452690868020 : True := trivial
theorem PySem.W.Fast.tw9899106537415271908 : True := trivial
theorem PySem.W.Fast.tw17518441541444054851 : True := trivial
theorem PySem.W.Fast.tw649608759122160639 : True := trivial
theorem PySem.W.Fast.tw13151860840595735588 : True := trivial
theorem PySem.W.Fast.tw10959601550799664866 : True := trivial
theorem PySem.W.Fast.tw12040700612446156365 : True := trivial
theorem PySem.W.Fast.tw10976916328280807740 : True := trivial
theorem PySem.W.Fast.tw7226335256017367664 : True := trivial
theorem PySem.W.Fast.tw8351940024853606153 : True := trivial
theorem PySem.W.Fast.tw10875915129327681479 : True := trivial
theorem PySem.W.Fast.tw9273749034589452372 : True := trivial
theorem PySem.W.Fast.tw9726499804407421150 : True := trivial
theorem PySem.W.Fast.tw1541390137785268489 : True := trivial
theorem PySem.W.Fast.tw13763548031815283105 : True := trivial
theorem PySem.W.Fast.tw422133491994573600 : True := trivial
theorem PySem.W.Fast.tw1773168620592010464 : True := trivial
theorem PySem.W.Fast.tw4845062205651908846 : True := trivial
theorem PySem.W.Fast.tw581624673576273733 : True := trivial
theorem PySem.W.Fast.tw16108683439452573196 : True := trivial
theorem PySem.W.Fast.tw3804644508590672567 : True := trivial
theorem PySem.W.Fast.tw15777727205422232259 : True := trivial
theorem PySem.W.Fast.tw9767835334136945500 : True := trivial
theorem PySem.W.Fast.tw5413867046200783300 : True := trivial
theorem PySem.W.Fast.tw17224136842777925769 : True := trivial
theorem PySem.W.Fast.tw11838533876880151255 : True := trivial
theorem PySem.W.Fast.tw17061052937979120452 : True := trivial
theorem PySem.W.Fast.tw3585050545399854595 : True := trivial
theorem PySem.W.Fast.tw15529565497415042127 : True := trivial
theorem PySem.W.Fast.tw10444808228407659463 : True := trivial
theorem PySem.W.Fast.tw5819734581818281117 : True := trivial
theorem PySem.W.Fast.tw7994022750629151397 : True := trivial
theorem PySem.W.Fast.tw5234244836935557148 : True := trivial
theorem PySem.W.Fast.tw11466775115864104405 : True := trivial
theorem PySem.W.Fast.tw7925527518496795138 : True := trivial
theorem PySem.W.Fast.tw18148028505018860548 : True := trivial
theorem PySem.W.Fast.tw2464632616507246105 : True := trivial
theorem PySem.W.Fast.tw1785764015307448107 : True := trivial
theorem PySem.W.Fast.tw12959513109602738772 : True := trivial
theorem PySem.W.Fast.tw15148486488724889768 : True := trivial
theorem PySem.W.Fast.tw10389298660412600694 : True := trivial
theorem PySem.W.Fast.tw15379392202628448389 : True := trivial
theorem PySem.W.Fast.tw16614828998269169022 : True := trivial
theorem PySem.W.Fast.tw5720766521203640717 : True := trivial
theorem PySem.W.Fast.tw11565638555324697494 : True := trivial
theorem PySem.W.Fast.tw14723038922414385995 : True := trivial
theorem PySem.W.Fast.tw9290451393861204556 : True := trivial
theorem PySem.W.Fast.tw2158110943347420044 : True := trivial
theorem PySem.W.Fast.tw17825368304481271997 : True := trivial
theorem PySem.W.Fast.tw5843190943006995418 : True := trivial
theorem PySem.W.Fast.tw10757209182295701929 : True := trivial
theorem PySem.W.Fast.tw2451980982244591287 : True := trivial
theorem PySem.W.Fast.tw10574785483567682490 : True := trivial
theorem PySem.W.Fast.tw15659519221195128613 : True := trivial
theorem PySem.W.Fast.tw16958441862519002913 : True := trivial
theorem PySem.W.Fast.tw8166499613862366943 : True := trivial
theorem PySem.W.Fast.tw12029188855291544363 : True := trivial
theorem PySem.W.Fast.tw7398927201216235336 : True := trivial
theorem PySem.W.Fast.tw7354859639509333368 : True := trivial
theorem PySem.W.Fast.tw15117648659845931429 : True := trivial
theorem PySem.W.Fast.tw3433495079684699705 : True := trivial
theorem PySem.W.Fast.tw1779903198153765153 : True := trivial
theorem PySem.W.Fast.tw17255689729477372275 : True := trivial
theorem PySem.W.Fast.tw3729688450133062473 : True := trivial
theorem PySem.W.Fast.tw12710968976012921859 : True := trivial
theorem PySem.W.Fast.tw5141566123437506360 : True := trivial
theorem PySem.W.Fast.tw12972430048409166033 : True := trivial
theorem PySem.W.Fast.tw13174632835208832378 : True := trivial
theorem PySem.W.Fast.tw2873291493216253780 : True := trivial
theorem PySem.W.Fast.tw14019549498702243977 : True := trivial
theorem PySem.W.Fast.tw9081497634383298243 : True := trivial
theorem PySem.W.Fast.tw16792331023519984881 : True := trivial
theorem PySem.W.Fast.tw13666795686682415780 : True := trivial
theorem PySem.W.Fast.tw4845963030941201761 : True := trivial
theorem PySem.W.Fast.tw17871969304116693024 : True := trivial
theorem PySem.W.Fast.tw3575130604401870786 : True := trivial
theorem PySem.W.Fast.tw16089995453357939730 : True := trivial
theorem PySem.W.Fast.tw5915306718041335917 : True := trivial
theorem PySem.W.Fast.tw11258298572750491699 : True := trivial
theorem PySem.W.Fast.tw2040983136492324713 : True := trivial
theorem PySem.W.Fast.tw10333606878789080960 : True := trivial
theorem PySem.W.Fast.tw16848707264288165805 : True := trivial
theorem PySem.W.Fast.tw1817986093953709109 : True := trivial
theorem PySem.W.Fast.tw8233888185527085309 : True := trivial
theorem PySem.W.Fast.tw13998222522097124958 : True := trivial
theorem PySem.W.Fast.tw13012690076180252879 : True := trivial
theorem PySem.W.Fast.tw825306699577721170 : True := trivial
theorem PySem.W.Fast.tw15055781633490449389 : True := trivial
theorem PySem.W.Fast.tw11358459791182570123 : True := trivial
theorem PySem.W.Fast.tw13161451961688844341 : True := trivial
theorem PySem.W.Fast.tw1252629438517293952 : True := trivial
theorem PySem.W.Fast.tw18273896790175163964 : True := trivial
theorem PySem.W.Fast.tw11580103393331059272 : True := trivial
theorem PySem.W.Fast.tw16833476201761072245 : True := trivial
theorem PySem.W.Fast.tw9829633196297004269 : True := trivial
theorem PySem.W.Fast.tw15450621165127617277 : True := trivial
theorem PySem.W.Fast.tw11202002313754992226 : True := trivial
theorem PySem.W.Fast.tw1933013801318134390 : True := trivial
theorem PySem.W.Fast.tw13251427101770385461 : True := trivial
theorem PySem.W.Fast.tw4592730757609831400 : True := trivial
theorem PySem.W.Fast.tw13632532678888012167 : True := trivial
theorem PySem.W.Fast.tw9430242858371675339 : True := trivial
theorem PySem.W.Fast.tw16822232725278371296 : True := trivial
theorem PySem.W.Fast.tw16924447517341428690 : True := trivial
theorem PySem.W.Fast.tw10095309060559426802 : True := trivial
theorem PySem.W.Fast.tw144989615091120114 : True := trivial
theorem PySem.W.Fast.tw947313801007053763 : True := trivial
theorem PySem.W.Fast.tw5171574283585221365 : True := trivial
theorem PySem.W.Fast.tw17638323304190209177 : True := trivial
theorem PySem.W.Fast.tw2533586667206351477 : True := trivial
theorem PySem.W.Fast.tw7026182475291017308 : True := trivial
theorem PySem.W.Fast.tw12072583318476653687 : True := trivial
theorem PySem.W.Fast.tw3221979463820620288 : True := trivial
theorem PySem.W.Fast.tw10814693690132917814 : True := trivial
theorem PySem.W.Fast.tw15362528553788710070 : True := trivial
theorem PySem.W.Fast.tw14690106094829867586 : True := trivial
theorem PySem.W.Fast.tw15927406095338642084 : True := trivial
theorem PySem.W.Fast.tw11980934562018268754 : True := trivial
theorem PySem.W.Fast.tw9132347282021287091 : True := trivial
theorem PySem.W.Fast.tw10992680874148846839 : True := trivial
theorem PySem.W.Fast.tw8796954532183047045 : True := trivial
theorem PySem.W.Fast.tw7801249119585193810 : True := trivial
theorem PySem.W.Fast.tw712507035001011406 : True := trivial
theorem PySem.W.Fast.tw14791694542940959930 : True := trivial
theorem PySem.W.Fast.tw15002517975120386313 : True := trivial
theorem PySem.W.Fast.tw14493829124672774848 : True := trivial
theorem PySem.W.Fast.tw3197726942647750098 : True := trivial
theorem PySem.W.Fast.tw11329320572291189125 : True := trivial
theorem PySem.W.Fast.tw3345080421620427964 : True := trivial
theorem PySem.W.Fast.tw9509976588867617120 : True := trivial
theorem PySem.W.Fast.tw16086153831988765393 : True := trivial
theorem PySem.W.Fast.tw16680119364520006872 : True := trivial
theorem PySem.W.Fast.tw8419716468413837957 : True := trivial
theorem PySem.W.Fast.tw13570923576835190398 : True := trivial
theorem PySem.W.Fast.tw10074089597012294675 : True := trivial
theorem PySem.W.Fast.tw9649678052078268390 : True := trivial
theorem PySem.W.Fast.tw5491043539486672891 : True := trivial
theorem PySem.W.Fast.tw16606124431591570736 : True := trivial
theorem PySem.W.Fast.tw5892475795061907145 : True := trivial
theorem PySem.W.Fast.tw6378866023200676528 : True := trivial
theorem PySem.W.Fast.tw12265595327058604688 : True := trivial
theorem PySem.W.Fast.tw8508977237215325080 : True := trivial
theorem PySem.W.Fast.tw7537707966697365624 : True := trivial
theorem PySem.W.Fast.tw18221121970970423717 : True := trivial
theorem PySem.W.Fast.tw9474291736690466591 : True := trivial
theorem PySem.W.Fast.tw18424614284274212725 : True := trivial
theorem PySem.W.Fast.tw12338736548564585853 : True := trivial
theorem PySem.W.Fast.tw1581853185613156366 : True := trivial
theorem PySem.W.Fast.tw3812426080560851650 : True := trivial
theorem PySem.W.Fast.tw7346648169858947729 : True := trivial
theorem PySem.W.Fast.tw13476322129768448251 : True := trivial
theorem PySem.W.Fast.tw17875640576460598288 : True := trivial
theorem PySem.W.Fast.tw3985699530023273722 : True := trivial
theorem PySem.W.Fast.tw16387487684753354581 : True := trivial
theorem PySem.W.Fast.tw16930902075940857531 : True := trivial
theorem PySem.W.Fast.tw1153501708134588142 : True := trivial
theorem PySem.W.Fast.tw2946089199973639660 : True := trivial
theorem PySem.W.Fast.tw6821169611559062087 : True := trivial
theorem PySem.W.Fast.tw9077305631415142400 : True := trivial
theorem PySem.W.Fast.tw7260191192129509540 : True := trivial
theorem PySem.W.Fast.tw654886920288416128 : True := trivial
theorem PySem.W.Fast.tw10827946660126247216 : True := trivial
theorem PySem.W.Fast.tw11795429194467553122 : True := trivial
theorem PySem.W.Fast.tw13823237654561982748 : True := trivial
theorem PySem.W.Fast.tw2183194533160040418 : True := trivial
theorem PySem.W.Fast.tw287101345804237168 : True := trivial
theorem PySem.W.Fast.tw5292273176521121017 : True := trivial
theorem PySem.W.Fast.tw3132639533576975470 : True := trivial
theorem PySem.W.Fast.tw3616985226813559613 : True := trivial
theorem PySem.W.Fast.tw17713669459501416832 : True := trivial
theorem PySem.W.Fast.tw14495804676307783036 : True := trivial
theorem PySem.W.Fast.tw14957336679012762126 : True := trivial
theorem PySem.W.Fast.tw9072268584000997541 : True := trivial
theorem PySem.W.Fast.tw11988702900676646240 : True := trivial
theorem PySem.W.Fast.tw3632167936560670829 : True := trivial
theorem PySem.W.Fast.tw6018184373566104356 : True := trivial
theorem PySem.W.Fast.tw14748139514754533224 : True := trivial
theorem PySem.W.Fast.tw14011502020321905605 : True := trivial
theorem PySem.W.Fast.tw16967253961172981812 : True := trivial
theorem PySem.W.Fast.tw17264140364207456515 : True := trivial
theorem PySem.W.Fast.tw7581797292962692552 : True := trivial
theorem PySem.W.Fast.tw9759425165214153517 : True := trivial
theorem PySem.W.Fast.tw6159423826316357600 : True := trivial
theorem PySem.W.Fast.tw15036642229268656861 : True := trivial
theorem PySem.W.Fast.tw1997779238438285875 : True := trivial
theorem PySem.W.Fast.tw6173169594431040160 : True := trivial
theorem PySem.W.Fast.tw8242478535938620242 : True := trivial
theorem PySem.W.Fast.tw13464866807036187395 : True := trivial
theorem PySem.W.Fast.tw16337241077953662337 : True := trivial
theorem PySem.W.Fast.tw7429856332426724933 : True := trivial
theorem PySem.W.Fast.tw12404977220327887444 : True := trivial
theorem PySem.W.Fast.tw14653599843950674694 : True := trivial
theorem PySem.W.Fast.tw11485442746448409750 : True := trivial
theorem PySem.W.Fast.tw7721603423337955223 : True := trivial
theorem PySem.W.Fast.tw10554632973252310005 : True := trivial
theorem PySem.W.Fast.tw6337552201920143463 : True := trivial
theorem PySem.W.Fast.tw7028844487637160178 : True := trivial
theorem PySem.W.Fast.tw2893246112899862029 : True := trivial
theorem PySem.W.Fast.tw8555202211718558083 : True := trivial
theorem PySem.W.Fast.tw14386212184179133849 : True := trivial
theorem PySem.W.Fast.tw8216498708622058208 : True := trivial
theorem PySem.W.Fast.tw1689542662013242499 : True := trivial
theorem PySem.W.Fast.tw1272367096624499312 : True := trivial
theorem PySem.W.Fast.tw8403078420092291996 : True := trivial
theorem PySem.W.Fast.tw7314065606688135425 : True := trivial
theorem PySem.W.Fast.tw12381463715056994510 : True := trivial
theorem PySem.W.Fast.tw6166139325705892680 : True := trivial
theorem PySem.W.Fast.tw10989336276673055385 : True := trivial
theorem PySem.W.Fast.tw6286958266179672052 : True := trivial
theorem PySem.W.Fast.tw10680892651346203341 : True := trivial
theorem PySem.W.Fast.tw13346310125842635957 : True := trivial
theorem PySem.W.Fast.tw5257533469206155740 : True := trivial
theorem PySem.W.Fast.tw15880658682291060606 : True := trivial
theorem PySem.W.Fast.tw6071152096009470932 : True := trivial
theorem PySem.W.Fast.tw15067648569908645405 : True := trivial
theorem PySem.W.Fast.tw4973388667005206467 : True := trivial
theorem PySem.W.Fast.tw16424731904364046705 : True := trivial
theorem PySem.W.Fast.tw12453332479986808749 : True := trivial
theorem PySem.W.Fast.tw14456606992170948560 : True := trivial
end
set_option Elab.async false
set_option linter.all false
open PySem PySem.W PyProof.Rows
set_option maxRecDepth 100000 in
set_option maxHeartbeats 0 in
theorem PySem.Challenge.cw_busterminal_s01_answers_holds : PySem.Challenge.rw_busterminal_s01_answers.Holds := by
  w_on; k_headS; (case hw => exact ⟨[.list [.int 0, .int 0]], by decide +kernel, by decide +kernel⟩)
  k_fillS
  refine L2.walk_specK (r := PySem.Challenge.rw_busterminal_s01_answers) (k := 13) (CX := L2.CX0) (ps := ["calls"]) (sp := Bt.spAnswers) (by decide +kernel) rfl rfl ⟨rfl, by decide, by decide⟩ (fun w h Y => PySem.W.kIn_of Y) ?F ?S (fun _ _ _ _ z => z)
  case F =>
    intro w mg fa h Y KX G hmg
    refine' Bt.fin_mk KX G hmg ?TC ?TL ?b_len ?b_sum ?b_range ?c_COMMAND_SYNC ?c_DATA_SYNC ?c_ALL_TERMINALS ?c_TIME_SPAN ?c_NOTHING ?c_FIRST_WORD ?c_SENDER_STATUS ?c_DATA_WORD ?c_TO_RECEIVE ?c_TO_TRANSMIT ?c_TO_RECEIVE_TO_ALL ?c_LOW_MODES ?c_HIGH_MODES ?c_EVERY_COUNT ?c_MODES_0_TO_8 ?c_MODES_16_TO_21 ?c_TAKE_CONTROL ?c_SYNCHRONIZE ?c_REPEAT_STATUS ?c_OTHER_WIRE_OFF ?c_OTHER_WIRE_ON ?c_HUSH_FAULT ?c_SHOW_FAULT ?c_RESET ?c_FIRST_HIGH_MODE ?c_SERVICE_WORD ?c_SET_STEP ?c_REPEAT_COMMAND ?c_TEST_WORD ?c_CHOSEN_WIRE_OFF ?c_CHOSEN_WIRE_ON ?c_SHORTEST_GAP ?c_LONGEST_GAP ?c_LONGEST_STATUS_GAP ?c_COUNTER_SPAN ?c_BEGIN ?c_WORD ?c_TICK ?c_OUTPUT ?c_GIVE ?c_GET ?c_SET_FLAGS ?c_ALLOW ?c_TOLD ?c_HIGHEST_ADDRESS ?c_HIGHEST_SUB ?c_LONGEST_ROW ?c_HIGHEST_FLAGS ?g_bit_of ?g_address_of ?g_is_to_all ?g_is_to_transmit ?g_sub_of ?g_count_of ?g_is_mode ?g_how_many_words ?g_time_between ?g_ones_in ?g_on_the_wire ?g_is_busy ?g_may_hand_over_control ?g_shown_fault ?g_status_of ?g_send ?g_reply ?g_reply_error ?g_fetch ?g_allowed_at_the_beginning ?g_is_mode_allowed ?g_asks_what_was_before ?g_sends_a_word ?g_takes_a_word ?g_do_mode ?g_is_low_mode_in_order ?g_do_low_mode ?g_change_by_low_mode ?g_do_sending_mode ?g_first_given ?g_finish_taking_mode ?g_hear ?g_is_for ?g_notice_silence ?g_fail ?g_count_error ?g_begin_command ?g_await_words ?g_hear_awaited ?g_hear_data ?g_hear_another_terminal ?g_finish_if_all_there ?g_is_allowed ?g_finish_receiving ?g_transmit ?g_words_to_transmit ?g_answers ?g_call_length ?g_answer ?g_done ?g_refusal ?g_counted ?g_is_sub ?g_begin ?g_take_word ?g_tick ?g_output ?g_give ?g_get_words ?g_set_flags ?g_allow ?g_has_allowed_counts ?g_told
    case TC =>
      refine' ⟨_, Bt.txtC_mk KX G ?aC ?pg ?hd ?po ?sa ?mk ?kc ?a0 ?i0 ?l0 ?c0 ?k0 ?a1 ?i1 ?l1 ?c1 ?k1 ?a2 ?i2 ?l2 ?c2 ?k2 ?n0 ?n1 ?n2 ?n3 ?n4 ?n5 ?n6 ?n7 ?n8 ?n9 ?n10 ?n11 ?n12 ?n13 ?n14 ?n15 ?n16 ?n17 ?n18 ?n19⟩
      (case aC => k_is); (case pg => k_is); (case hd => k_is); (case po => k_is); (case sa => k_is); (case mk => k_is); (case kc => k_is); (case a0 => k_is); (case i0 => k_is); (case l0 => k_is); (case c0 => k_is); (case k0 => k_is); (case a1 => k_is); (case i1 => k_is); (case l1 => k_is); (case c1 => k_is); (case k1 => k_is); (case a2 => k_is); (case i2 => k_is); (case l2 => k_is); (case c2 => k_is); (case k2 => k_is); (case n0 => k_is); (case n1 => k_is); (case n2 => k_is); (case n3 => k_is); (case n4 => k_is); (case n5 => k_is); (case n6 => k_is); (case n7 => k_is); (case n8 => k_is); (case n9 => k_is); (case n10 => k_is); (case n11 => k_is); (case n12 => k_is); (case n13 => k_is); (case n14 => k_is); (case n15 => k_is); (case n16 => k_is); (case n17 => k_is); (case n18 => k_is); (case n19 => k_is)
    case TL =>
      refine' Bt.lens_mk KX G ?e ?l
      (case e => k_is); (case l => k_is)
    case b_len => refine' PySem.W.mg_none_of KX G ?a; (case a => k_is)
    case b_sum => refine' PySem.W.mg_none_of KX G ?a; (case a => k_is)
    case b_range => refine' PySem.W.mg_none_of KX G ?a; (case a => k_is)
    case c_COMMAND_SYNC => refine' Bt.cn_mk KX G ?a; (case a => k_is)
    case c_DATA_SYNC => refine' Bt.cn_mk KX G ?a; (case a => k_is)
    case c_ALL_TERMINALS => refine' Bt.cn_mk KX G ?a; (case a => k_is)
    case c_TIME_SPAN => refine' Bt.cn_mk KX G ?a; (case a => k_is)
    case c_NOTHING => refine' Bt.cn_mk KX G ?a; (case a => k_is)
    case c_FIRST_WORD => refine' Bt.cn_mk KX G ?a; (case a => k_is)
    case c_SENDER_STATUS => refine' Bt.cn_mk KX G ?a; (case a => k_is)
    case c_DATA_WORD => refine' Bt.cn_mk KX G ?a; (case a => k_is)
    case c_TO_RECEIVE => refine' Bt.cn_mk KX G ?a; (case a => k_is)
    case c_TO_TRANSMIT => refine' Bt.cn_mk KX G ?a; (case a => k_is)
    case c_TO_RECEIVE_TO_ALL => refine' Bt.cn_mk KX G ?a; (case a => k_is)
    case c_LOW_MODES => refine' Bt.cn_mk KX G ?a; (case a => k_is)
    case c_HIGH_MODES => refine' Bt.cn_mk KX G ?a; (case a => k_is)
    case c_EVERY_COUNT => refine' Bt.cn_mk KX G ?a; (case a => k_is)
    case c_MODES_0_TO_8 => refine' Bt.cn_mk KX G ?a; (case a => k_is)
    case c_MODES_16_TO_21 => refine' Bt.cn_mk KX G ?a; (case a => k_is)
    case c_TAKE_CONTROL => refine' Bt.cn_mk KX G ?a; (case a => k_is)
    case c_SYNCHRONIZE => refine' Bt.cn_mk KX G ?a; (case a => k_is)
    case c_REPEAT_STATUS => refine' Bt.cn_mk KX G ?a; (case a => k_is)
    case c_OTHER_WIRE_OFF => refine' Bt.cn_mk KX G ?a; (case a => k_is)
    case c_OTHER_WIRE_ON => refine' Bt.cn_mk KX G ?a; (case a => k_is)
    case c_HUSH_FAULT => refine' Bt.cn_mk KX G ?a; (case a => k_is)
    case c_SHOW_FAULT => refine' Bt.cn_mk KX G ?a; (case a => k_is)
    case c_RESET => refine' Bt.cn_mk KX G ?a; (case a => k_is)
    case c_FIRST_HIGH_MODE => refine' Bt.cn_mk KX G ?a; (case a => k_is)
    case c_SERVICE_WORD => refine' Bt.cn_mk KX G ?a; (case a => k_is)
    case c_SET_STEP => refine' Bt.cn_mk KX G ?a; (case a => k_is)
    case c_REPEAT_COMMAND => refine' Bt.cn_mk KX G ?a; (case a => k_is)
    case c_TEST_WORD => refine' Bt.cn_mk KX G ?a; (case a => k_is)
    case c_CHOSEN_WIRE_OFF => refine' Bt.cn_mk KX G ?a; (case a => k_is)
    case c_CHOSEN_WIRE_ON => refine' Bt.cn_mk KX G ?a; (case a => k_is)
    case c_SHORTEST_GAP => refine' Bt.cn_mk KX G ?a; (case a => k_is)
    case c_LONGEST_GAP => refine' Bt.cn_mk KX G ?a; (case a => k_is)
    case c_LONGEST_STATUS_GAP => refine' Bt.cn_mk KX G ?a; (case a => k_is)
    case c_COUNTER_SPAN => refine' Bt.cn_mk KX G ?a; (case a => k_is)
    case c_BEGIN => refine' Bt.cn_mk KX G ?a; (case a => k_is)
    case c_WORD => refine' Bt.cn_mk KX G ?a; (case a => k_is)
    case c_TICK => refine' Bt.cn_mk KX G ?a; (case a => k_is)
    case c_OUTPUT => refine' Bt.cn_mk KX G ?a; (case a => k_is)
    case c_GIVE => refine' Bt.cn_mk KX G ?a; (case a => k_is)
    case c_GET => refine' Bt.cn_mk KX G ?a; (case a => k_is)
    case c_SET_FLAGS => refine' Bt.cn_mk KX G ?a; (case a => k_is)
    case c_ALLOW => refine' Bt.cn_mk KX G ?a; (case a => k_is)
    case c_TOLD => refine' Bt.cn_mk KX G ?a; (case a => k_is)
    case c_HIGHEST_ADDRESS => refine' Bt.cn_mk KX G ?a; (case a => k_is)
    case c_HIGHEST_SUB => refine' Bt.cn_mk KX G ?a; (case a => k_is)
    case c_LONGEST_ROW => refine' Bt.cn_mk KX G ?a; (case a => k_is)
    case c_HIGHEST_FLAGS => refine' Bt.cn_mk KX G ?a; (case a => k_is)
    case g_bit_of => refine' Bt.glob_mk KX G ?a ?l ?c ?k; (case a => k_is); (case l => k_is); (case c => k_is); (case k => k_is)
    case g_address_of => refine' Bt.glob_mk KX G ?a ?l ?c ?k; (case a => k_is); (case l => k_is); (case c => k_is); (case k => k_is)
    case g_is_to_all => refine' Bt.glob_mk KX G ?a ?l ?c ?k; (case a => k_is); (case l => k_is); (case c => k_is); (case k => k_is)
    case g_is_to_transmit => refine' Bt.glob_mk KX G ?a ?l ?c ?k; (case a => k_is); (case l => k_is); (case c => k_is); (case k => k_is)
    case g_sub_of => refine' Bt.glob_mk KX G ?a ?l ?c ?k; (case a => k_is); (case l => k_is); (case c => k_is); (case k => k_is)
    case g_count_of => refine' Bt.glob_mk KX G ?a ?l ?c ?k; (case a => k_is); (case l => k_is); (case c => k_is); (case k => k_is)
    case g_is_mode => refine' Bt.glob_mk KX G ?a ?l ?c ?k; (case a => k_is); (case l => k_is); (case c => k_is); (case k => k_is)
    case g_how_many_words => refine' Bt.glob_mk KX G ?a ?l ?c ?k; (case a => k_is); (case l => k_is); (case c => k_is); (case k => k_is)
    case g_time_between => refine' Bt.glob_mk KX G ?a ?l ?c ?k; (case a => k_is); (case l => k_is); (case c => k_is); (case k => k_is)
    case g_ones_in => refine' Bt.glob_mk KX G ?a ?l ?c ?k; (case a => k_is); (case l => k_is); (case c => k_is); (case k => k_is)
    case g_on_the_wire => refine' Bt.glob_mk KX G ?a ?l ?c ?k; (case a => k_is); (case l => k_is); (case c => k_is); (case k => k_is)
    case g_is_busy => refine' Bt.glob_mk KX G ?a ?l ?c ?k; (case a => k_is); (case l => k_is); (case c => k_is); (case k => k_is)
    case g_may_hand_over_control => refine' Bt.glob_mk KX G ?a ?l ?c ?k; (case a => k_is); (case l => k_is); (case c => k_is); (case k => k_is)
    case g_shown_fault => refine' Bt.glob_mk KX G ?a ?l ?c ?k; (case a => k_is); (case l => k_is); (case c => k_is); (case k => k_is)
    case g_status_of => refine' Bt.glob_mk KX G ?a ?l ?c ?k; (case a => k_is); (case l => k_is); (case c => k_is); (case k => k_is)
    case g_send => refine' Bt.glob_mk KX G ?a ?l ?c ?k; (case a => k_is); (case l => k_is); (case c => k_is); (case k => k_is)
    case g_reply => refine' Bt.glob_mk KX G ?a ?l ?c ?k; (case a => k_is); (case l => k_is); (case c => k_is); (case k => k_is)
    case g_reply_error => refine' Bt.glob_mk KX G ?a ?l ?c ?k; (case a => k_is); (case l => k_is); (case c => k_is); (case k => k_is)
    case g_fetch => refine' Bt.glob_mk KX G ?a ?l ?c ?k; (case a => k_is); (case l => k_is); (case c => k_is); (case k => k_is)
    case g_allowed_at_the_beginning => refine' Bt.glob_mk KX G ?a ?l ?c ?k; (case a => k_is); (case l => k_is); (case c => k_is); (case k => k_is)
    case g_is_mode_allowed => refine' Bt.glob_mk KX G ?a ?l ?c ?k; (case a => k_is); (case l => k_is); (case c => k_is); (case k => k_is)
    case g_asks_what_was_before => refine' Bt.glob_mk KX G ?a ?l ?c ?k; (case a => k_is); (case l => k_is); (case c => k_is); (case k => k_is)
    case g_sends_a_word => refine' Bt.glob_mk KX G ?a ?l ?c ?k; (case a => k_is); (case l => k_is); (case c => k_is); (case k => k_is)
    case g_takes_a_word => refine' Bt.glob_mk KX G ?a ?l ?c ?k; (case a => k_is); (case l => k_is); (case c => k_is); (case k => k_is)
    case g_do_mode => refine' Bt.glob_mk KX G ?a ?l ?c ?k; (case a => k_is); (case l => k_is); (case c => k_is); (case k => k_is)
    case g_is_low_mode_in_order => refine' Bt.glob_mk KX G ?a ?l ?c ?k; (case a => k_is); (case l => k_is); (case c => k_is); (case k => k_is)
    case g_do_low_mode => refine' Bt.glob_mk KX G ?a ?l ?c ?k; (case a => k_is); (case l => k_is); (case c => k_is); (case k => k_is)
    case g_change_by_low_mode => refine' Bt.glob_mk KX G ?a ?l ?c ?k; (case a => k_is); (case l => k_is); (case c => k_is); (case k => k_is)
    case g_do_sending_mode => refine' Bt.glob_mk KX G ?a ?l ?c ?k; (case a => k_is); (case l => k_is); (case c => k_is); (case k => k_is)
    case g_first_given => refine' Bt.glob_mk KX G ?a ?l ?c ?k; (case a => k_is); (case l => k_is); (case c => k_is); (case k => k_is)
    case g_finish_taking_mode => refine' Bt.glob_mk KX G ?a ?l ?c ?k; (case a => k_is); (case l => k_is); (case c => k_is); (case k => k_is)
    case g_hear => refine' Bt.glob_mk KX G ?a ?l ?c ?k; (case a => k_is); (case l => k_is); (case c => k_is); (case k => k_is)
    case g_is_for => refine' Bt.glob_mk KX G ?a ?l ?c ?k; (case a => k_is); (case l => k_is); (case c => k_is); (case k => k_is)
    case g_notice_silence => refine' Bt.glob_mk KX G ?a ?l ?c ?k; (case a => k_is); (case l => k_is); (case c => k_is); (case k => k_is)
    case g_fail => refine' Bt.glob_mk KX G ?a ?l ?c ?k; (case a => k_is); (case l => k_is); (case c => k_is); (case k => k_is)
    case g_count_error => refine' Bt.glob_mk KX G ?a ?l ?c ?k; (case a => k_is); (case l => k_is); (case c => k_is); (case k => k_is)
    case g_begin_command => refine' Bt.glob_mk KX G ?a ?l ?c ?k; (case a => k_is); (case l => k_is); (case c => k_is); (case k => k_is)
    case g_await_words => refine' Bt.glob_mk KX G ?a ?l ?c ?k; (case a => k_is); (case l => k_is); (case c => k_is); (case k => k_is)
    case g_hear_awaited => refine' Bt.glob_mk KX G ?a ?l ?c ?k; (case a => k_is); (case l => k_is); (case c => k_is); (case k => k_is)
    case g_hear_data => refine' Bt.glob_mk KX G ?a ?l ?c ?k; (case a => k_is); (case l => k_is); (case c => k_is); (case k => k_is)
    case g_hear_another_terminal => refine' Bt.glob_mk KX G ?a ?l ?c ?k; (case a => k_is); (case l => k_is); (case c => k_is); (case k => k_is)
    case g_finish_if_all_there => refine' Bt.glob_mk KX G ?a ?l ?c ?k; (case a => k_is); (case l => k_is); (case c => k_is); (case k => k_is)
    case g_is_allowed => refine' Bt.glob_mk KX G ?a ?l ?c ?k; (case a => k_is); (case l => k_is); (case c => k_is); (case k => k_is)
    case g_finish_receiving => refine' Bt.glob_mk KX G ?a ?l ?c ?k; (case a => k_is); (case l => k_is); (case c => k_is); (case k => k_is)
    case g_transmit => refine' Bt.glob_mk KX G ?a ?l ?c ?k; (case a => k_is); (case l => k_is); (case c => k_is); (case k => k_is)
    case g_words_to_transmit => refine' Bt.glob_mk KX G ?a ?l ?c ?k; (case a => k_is); (case l => k_is); (case c => k_is); (case k => k_is)
    case g_answers => refine' Bt.glob_mk KX G ?a ?l ?c ?k; (case a => k_is); (case l => k_is); (case c => k_is); (case k => k_is)
    case g_call_length => refine' Bt.glob_mk KX G ?a ?l ?c ?k; (case a => k_is); (case l => k_is); (case c => k_is); (case k => k_is)
    case g_answer => refine' Bt.glob_mk KX G ?a ?l ?c ?k; (case a => k_is); (case l => k_is); (case c => k_is); (case k => k_is)
    case g_done => refine' Bt.glob_mk KX G ?a ?l ?c ?k; (case a => k_is); (case l => k_is); (case c => k_is); (case k => k_is)
    case g_refusal => refine' Bt.glob_mk KX G ?a ?l ?c ?k; (case a => k_is); (case l => k_is); (case c => k_is); (case k => k_is)
    case g_counted => refine' Bt.glob_mk KX G ?a ?l ?c ?k; (case a => k_is); (case l => k_is); (case c => k_is); (case k => k_is)
    case g_is_sub => refine' Bt.glob_mk KX G ?a ?l ?c ?k; (case a => k_is); (case l => k_is); (case c => k_is); (case k => k_is)
    case g_begin => refine' Bt.glob_mk KX G ?a ?l ?c ?k; (case a => k_is); (case l => k_is); (case c => k_is); (case k => k_is)
    case g_take_word => refine' Bt.glob_mk KX G ?a ?l ?c ?k; (case a => k_is); (case l => k_is); (case c => k_is); (case k => k_is)
    case g_tick => refine' Bt.glob_mk KX G ?a ?l ?c ?k; (case a => k_is); (case l => k_is); (case c => k_is); (case k => k_is)
    case g_output => refine' Bt.glob_mk KX G ?a ?l ?c ?k; (case a => k_is); (case l => k_is); (case c => k_is); (case k => k_is)
    case g_give => refine' Bt.glob_mk KX G ?a ?l ?c ?k; (case a => k_is); (case l => k_is); (case c => k_is); (case k => k_is)
    case g_get_words => refine' Bt.glob_mk KX G ?a ?l ?c ?k; (case a => k_is); (case l => k_is); (case c => k_is); (case k => k_is)
    case g_set_flags => refine' Bt.glob_mk KX G ?a ?l ?c ?k; (case a => k_is); (case l => k_is); (case c => k_is); (case k => k_is)
    case g_allow => refine' Bt.glob_mk KX G ?a ?l ?c ?k; (case a => k_is); (case l => k_is); (case c => k_is); (case k => k_is)
    case g_has_allowed_counts => refine' Bt.glob_mk KX G ?a ?l ?c ?k; (case a => k_is); (case l => k_is); (case c => k_is); (case k => k_is)
    case g_told => refine' Bt.glob_mk KX G ?a ?l ?c ?k; (case a => k_is); (case l => k_is); (case c => k_is); (case k => k_is)
  case S =>
    intro K H xs a hO hwi hask hx
    cases hx with
    | cons h1 h2 =>
      cases h2
      cases h1 with
      | lst hs ha =>
        have e := L2.ints_dw a.1 _ ha
        subst e
        exact ⟨_, a.1, rfl, hs, hask, fun H' p hp => .lst (L2.SqL.of hp) (L2.dw_ints _)⟩
