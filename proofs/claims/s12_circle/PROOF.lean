import PyProof.Rows.All
import Wide.All
import OpenK.AllK
import Wide.FinOn
import PyProof.EqAt
import PyProof.EqKinds
import PyProof.TupleCall
import KE.BitLaws
import Open.SpecLaws
import KE.OsHead
import KE.OsGo
import KE.IntBitsLaws
import PySem.Challenge.RW_exactmatrices_s12_circle
section
set_option Elab.async false
set_option linter.all false
set_option maxRecDepth 100000
namespace L2
open PySem PySem.Spec PyProof.Rows

/-- a key: an int or a str -/
abbrev Key := Sum Int Str
def keyIs : Key → Value → Bool
  | .inl k, v => Value.isInt k v
  | .inr x, v => Value.isStrOf x v
def keyH (w : World) : Key → Int
  | .inl k => hashInt k
  | .inr x => hashStr w x
theorem keyIs_shape : ∀ {k : Key} {v : Value}, keyIs k v = true → (∃ i t, k = Sum.inl i ∧ v = Value.int i t) ∨ (∃ x t, k = Sum.inr x ∧ v = Value.str x t)
  | .inl i, v, h => by
    obtain ⟨t, e⟩ := Value.isInt_shape (k := i) (v := v) h
    exact .inl ⟨i, t, rfl, e⟩
  | .inr x, v, h => by
    obtain ⟨t, e⟩ := Value.isStrOf_shape (x := x) (v := v) h
    exact .inr ⟨x, t, rfl, e⟩
theorem key_ll (a b : Int) : decide ((Sum.inl a : Key) = Sum.inl b) = (a == b) := by
  by_cases e : a = b
  · subst e; simp
  · have h : ¬ (Sum.inl a : Key) = Sum.inl b := fun q => e (Sum.inl.inj q)
    rw [decide_eq_false h]
    exact (beq_eq_false_iff_ne.mpr e).symm
theorem key_rr (a b : Str) : decide ((Sum.inr a : Key) = Sum.inr b) = decide (a = b) := by
  by_cases e : a = b
  · subst e; simp
  · have h : ¬ (Sum.inr a : Key) = Sum.inr b := fun q => e (Sum.inr.inj q)
    rw [decide_eq_false h, decide_eq_false e]
theorem key_lr (a : Int) (b : Str) : decide ((Sum.inl a : Key) = Sum.inr b) = false := decide_eq_false (fun q => nomatch q)
theorem key_rl (a : Str) (b : Int) : decide ((Sum.inr a : Key) = Sum.inl b) = false := decide_eq_false (fun q => nomatch q)

def mixKind (prog : Program) (w : World) : PySem.KeyKind prog w Key where
  is := keyIs
  hash := keyH w
  inj := fun v a b ha hb => by
    rcases keyIs_shape ha with ⟨i, t, rfl, rfl⟩ | ⟨x, t, rfl, rfl⟩
    · rcases keyIs_shape hb with ⟨j, u, rfl, e⟩ | ⟨y, u, rfl, e⟩
      · injection e with e1 _; rw [e1]
      · exact nomatch e
    · rcases keyIs_shape hb with ⟨j, u, rfl, e⟩ | ⟨y, u, rfl, e⟩
      · exact nomatch e
      · injection e with e1 _; rw [e1]
  byValue := fun k v h => by
    rcases keyIs_shape h with ⟨i, t, rfl, rfl⟩ | ⟨x, t, rfl, rfl⟩ <;> rfl
  pyHash := fun hv h => by
    rcases keyIs_shape hv with ⟨i, t, rfl, rfl⟩ | ⟨x, t, rfl, rfl⟩
    · exact wpAny_pyHash_int h
    · exact wpAny_pyHash_str h
  eqBool := fun hu hv h => by
    rcases keyIs_shape hu with ⟨i, t, rfl, rfl⟩ | ⟨x, t, rfl, rfl⟩
    · rcases keyIs_shape hv with ⟨j, u, rfl, rfl⟩ | ⟨y, u, rfl, rfl⟩
      · rw [key_ll] at h; exact wpAny_eqBool_int h
      · rw [key_lr] at h; exact SeqAt.EqAt.int_str i t y u _ _ _ _ h
    · rcases keyIs_shape hv with ⟨j, u, rfl, rfl⟩ | ⟨y, u, rfl, rfl⟩
      · rw [key_rl] at h; exact SeqAt.EqAt.str_int x t j u _ _ _ _ h
      · rw [key_rr] at h; exact wpAny_eqBool_str h
  «strs» := fun k x t v h => by
    rcases keyIs_shape h with ⟨i, u, rfl, e⟩ | ⟨y, u, rfl, e⟩
    · exact nomatch e
    · injection e with e1 _
      subst e1
      cases v <;> rfl

end L2

namespace L2
open PySem PySem.Spec PyProof.Rows

/-- a value, without the heap -/
inductive V where
  | non | bl (b : Bool) | int (i : Int) | str (x : Str) | byt (b : Array UInt8) | flt (b : UInt64) | ref (a : Addr) | ty (n : String)
  deriving DecidableEq

def RelV : V → Value → Prop
  | .non, u => u = Value.none
  | .bl b, u => u = Value.bool b
  | .int i, u => ∃ t, u = Value.int i t
  | .str x, u => ∃ t, u = Value.str x t
  | .byt b, u => ∃ t, u = Value.bytes b t
  | .flt b, u => ∃ t, u = Value.float b t
  | .ref a, u => u = Value.ref a
  | .ty n, u => u = Value.type n

abbrev Vals : List V → List Value → Prop := Paired RelV
theorem Vals.length {xs : List V} {us : List Value} (r : Vals xs us) : xs.length = us.length := Paired.length r
theorem Vals.get : ∀ {xs : List V} {us : List Value} {i : Nat} {x : V}, Vals xs us → xs[i]? = some x → ∃ u, us[i]? = some u ∧ RelV x u
  | _, _, _, _, .nil, e => by simp at e
  | _, _, 0, _, .cons r _, e => by simp at e; subst e; exact ⟨_, rfl, r⟩
  | _, _, i + 1, x, .cons _ t, e => by
    obtain ⟨u, h1, h2⟩ := Vals.get (i := i) (x := x) t (by simpa using e)
    exact ⟨u, by simpa using h1, h2⟩
theorem Vals.append : ∀ {xs ys : List V} {us ws : List Value}, Vals xs us → Vals ys ws → Vals (xs ++ ys) (us ++ ws)
  | _, _, _, _, .nil, s => s
  | _, _, _, _, .cons r t, s => .cons r (Vals.append t s)
theorem Vals.take : ∀ {xs : List V} {us : List Value} (n : Nat), Vals xs us → Vals (xs.take n) (us.take n)
  | _, _, 0, _ => .nil
  | _, _, _ + 1, .nil => .nil
  | _, _, n + 1, .cons r t => .cons r (Vals.take n t)
theorem Vals.drop : ∀ {xs : List V} {us : List Value} (n : Nat), Vals xs us → Vals (xs.drop n) (us.drop n)
  | _, _, 0, r => r
  | _, _, _ + 1, .nil => .nil
  | _, _, n + 1, .cons _ t => Vals.drop n t
def RelO : Option V → Option Value → Prop
  | some v, some u => RelV v u
  | none, none => True
  | _, _ => False
def KV {κ : Type} : List (κ × V) → List (κ × Value) → Prop := Paired fun (p : κ × V) (q : κ × Value) => p.1 = q.1 ∧ RelV p.2 q.2

/-- a key of a dict (00_mix): an int or a text -/
def kV : Key → V
  | .inl i => .int i
  | .inr x => .str x

/-- what stands at a tracked address -/
inductive HO where
  /-- a list -/
  | lst (xs : List V)
  /-- a tuple (never changes) -/
  | tup (xs : List V)
  /-- a dict whose keys are ints and texts; one whose keys are tuples of ints and texts (the empty one is both) -/
  | dK (kvs : List (Key × V)) | dT (kvs : List (List Key × V))
  /-- a set of ints: its members, its size -/
  | set (S : Int → Bool) (n : Nat)
  /-- an instance of the class at C, its dict at dx, its attributes -/
  | ins (C dx : Addr) (fs : List (Str × V))
  /-- the dict of the instance at x -/
  | own (x : Addr)
  /-- the dict of an exception -/
  | xd (fs : List (Str × V))
  /-- a bound method, f of x -/
  | met (f x : Addr)
  /-- a range object lo, lo + 1, .. below hi -/
  | rng (lo hi : Int)
  /-- a thing that is known to the object (the script; a dict while a loop walks it): read, never written while it is so -/
  | frz (o : Obj) (u : HO)
  /-- a code object's table -/
  | tbl (ps : Array Value)
  /-- any other thing, by what is true of its one object (a def of one's own: SetO a S n := HO.ext fun h => ..) -/
  | ext (φ : Heap → Prop)

abbrev Hp := Addr → Option HO
def upd (H : Hp) (a : Addr) (o : HO) : Hp := fun b => if b = a then some o else H b
theorem upd_same {H : Hp} {a : Addr} {o : HO} : upd H a o a = some o := by unfold upd; rw [if_pos rfl]
theorem upd_ne {H : Hp} {a b : Addr} {o : HO} (h : b ≠ a) : upd H a o b = H b := by unfold upd; rw [if_neg h]
theorem ne_of_none {H : Hp} {a b : Addr} {o : HO} (h : H a = some o) (h' : H b = none) : a ≠ b := by
  intro e; subst e; rw [h] at h'; cases h'

section
variable (P : Program) (w : World)
def ObjOk (H : Hp) (h : Heap) (a : Addr) : HO → Prop
  | .lst xs => xs.length ≤ sizeLine ∧ ∃ (its : List Value) (n : Nat), Vals xs its ∧ h.get? a = some { cls := .type "list", data := .seq its.toArray n }
  | .tup xs => xs.length ≤ sizeLine ∧ ∃ its : List Value, Vals xs its ∧ IsTup h a its.toArray
  | .dK kvs => kvs.length ≤ sizeLine ∧ (a == sysModules) = false ∧ ∃ vs, KV kvs vs ∧ h.DictOf (mixKind P w) a vs
  | .dT kvs => kvs.length ≤ sizeLine ∧ (a == sysModules) = false ∧ ∃ xs : List (List Key × Addr × Value),
      Paired (fun (p : List Key × V) (q : List Key × Addr × Value) => p.1 = q.1 ∧ H q.2.1 = some (.tup (p.1.map kV)) ∧ RelV p.2 q.2.2) kvs xs ∧
      ∃ o es ep, h.get? a = some o ∧ o.ExactDict ∧ o.data = .dict es ep ∧ es.toList = xs.map (entryOfKey (tupleKind (mixKind P w))) ∧ (xs.map (·.1)).Nodup
  | .set S n => h.SetOf (intKind P w) a S n
  | .ins C dx fs => H dx = some (.own a) ∧ fs.length ≤ 1000 ∧ dx ≠ a ∧ h.get? a = some (PySem.W.instObj C dx) ∧
      ∃ mA, h.Ns1 dx mA ∧ (∀ f, RelO (fs.lookup f) (mA f)) ∧ PySem.Within mA (fs.map (·.1))
  | .own _ => ∃ o, h.get? a = some o
  | .xd fs => ∃ mA, h.Ns1 a mA ∧ ∀ f, RelO (fs.lookup f) (mA f)
  | .rng lo hi => ∃ t u v, h.get? a = some { cls := .type "range", data := .fields #[.int lo t, .int hi u, .int 1 v] }
  | .frz o u => h.get? a = some o ∧ ObjOk H h a u
  | .tbl ps => h.get? a = some { cls := .none, data := .fields ps }
  | .met f x => h.get? a = some (PySem.W.methodObj (.ref f) (.ref x))
  | .ext φ => φ h ∧ (∃ o, h.get? a = some o) ∧ ∀ h1 h2 : Heap, φ h1 → (∀ o, h1.get? a = some o → h2.get? a = some o) → φ h2
/-- the abstract heap is held -/
def HOk (H : Hp) (h : Heap) : Prop := ∀ a o, H a = some o → ObjOk P w H h a o
end

section
variable {P : Program} {w : World} {H H' : Hp} {h h' : Heap} {a : Addr} {o : HO}
theorem ObjOk.lt (x : ObjOk P w H h a o) : a < h.objs.size := by
  cases o with
  | lst xs => obtain ⟨_, _, _, _, e⟩ := x; exact Heap.lt_size e
  | tup xs => obtain ⟨_, _, _, p⟩ := x; exact p.lt
  | dK kvs => obtain ⟨_, _, _, _, o, _, _, e, _⟩ := x; exact Heap.lt_size e
  | dT kvs => obtain ⟨_, _, _, _, o, _, _, e, _⟩ := x; exact Heap.lt_size e
  | set S n => obtain ⟨o, _, _, _, e, _⟩ := x; exact Heap.lt_size e
  | ins C dx fs => obtain ⟨_, _, _, e, _⟩ := x; exact Heap.lt_size e
  | own y => obtain ⟨_, e⟩ := x; exact Heap.lt_size e
  | xd fs => obtain ⟨_, ⟨_, _, _, e, _⟩, _⟩ := x; exact Heap.lt_size e
  | rng lo hi => obtain ⟨_, _, _, e⟩ := x; exact Heap.lt_size e
  | frz ob u => obtain ⟨e, _⟩ := x; exact Heap.lt_size e
  | tbl ps => exact Heap.lt_size (show h.get? a = some _ from x)
  | met f y => exact Heap.lt_size (show h.get? a = some _ from x)
  | ext φ => obtain ⟨_, ⟨_, e⟩, _⟩ := x; exact Heap.lt_size e
theorem Paired.mapP {α β : Type} {F G : α → β → Prop} : ∀ {l₁ : List α} {l₂ : List β}, Paired F l₁ l₂ → (∀ a b, F a b → G a b) → Paired G l₁ l₂
  | _, _, .nil, _ => .nil
  | _, _, .cons r t, f => .cons (f _ _ r) (Paired.mapP t f)
/-- what an object's description leans on: its own object, its own dict, the tuples -/
theorem ObjOk.stay (x : ObjOk P w H h a o) (k : ∀ b u, (b = a ∨ H b = some (.own a)) → h.get? b = some u → h'.get? b = some u)
    (ho : ∀ b, H b = some (.own a) → H' b = some (.own a)) (ht : ∀ b xs, H b = some (.tup xs) → H' b = some (.tup xs)) : ObjOk P w H' h' a o := by
  induction o with
  | lst xs => obtain ⟨z, its, n, r, e⟩ := x; exact ⟨z, its, n, r, k _ _ (.inl rfl) e⟩
  | tup xs => obtain ⟨z, its, r, ob, e, c⟩ := x; exact ⟨z, its, r, ob, k _ _ (.inl rfl) e, c⟩
  | dK kvs => obtain ⟨z, y, vs, r, ob, es, ep, e, c⟩ := x; exact ⟨z, y, vs, r, ob, es, ep, k _ _ (.inl rfl) e, c⟩
  | dT kvs =>
    obtain ⟨z, y, xs, r, ob, es, ep, e, c⟩ := x
    exact ⟨z, y, xs, Paired.mapP r fun p q z => ⟨z.1, ht _ _ z.2.1, z.2.2⟩, ob, es, ep, k _ _ (.inl rfl) e, c⟩
  | set S n => obtain ⟨ob, es, ep, t, e, c⟩ := x; exact ⟨ob, es, ep, t, k _ _ (.inl rfl) e, c⟩
  | ins C dx fs =>
    obtain ⟨d, z, ne, e, mA, ⟨od, es, ep, e2, c⟩, r⟩ := x
    exact ⟨ho _ d, z, ne, k _ _ (.inl rfl) e, mA, ⟨od, es, ep, k _ _ (.inr d) e2, c⟩, r⟩
  | own y => obtain ⟨ob, e⟩ := x; exact ⟨ob, k _ _ (.inl rfl) e⟩
  | xd fs => obtain ⟨mA, ⟨od, es, ep, e, c⟩, r⟩ := x; exact ⟨mA, ⟨od, es, ep, k _ _ (.inl rfl) e, c⟩, r⟩
  | rng lo hi => obtain ⟨t, u, v, e⟩ := x; exact ⟨t, u, v, k _ _ (.inl rfl) e⟩
  | frz ob u ih => obtain ⟨e, q⟩ := x; exact ⟨k _ _ (.inl rfl) e, ih q⟩
  | tbl ps =>
    have e : h.get? a = some { cls := .none, data := .fields ps } := x
    show h'.get? a = some { cls := .none, data := .fields ps }
    exact k a _ (.inl rfl) e
  | met f y =>
    have e : h.get? a = some (PySem.W.methodObj (.ref f) (.ref y)) := x
    show h'.get? a = some (PySem.W.methodObj (.ref f) (.ref y))
    exact k a _ (.inl rfl) e
  | ext φ => obtain ⟨p, ⟨o, e⟩, st⟩ := x; exact ⟨st _ _ p fun o q => k _ _ (.inl rfl) q, ⟨o, k _ _ (.inl rfl) e⟩, st⟩
theorem HOk.lt (x : HOk P w H h) (e : H a = some o) : a < h.objs.size := (x a o e).lt
theorem HOk.fresh (x : HOk P w H h) (e : h.objs.size ≤ a) : H a = none := by
  cases q : H a with
  | none => rfl
  | some u => exact absurd (Nat.lt_of_lt_of_le (x.lt q) e) (Nat.lt_irrefl _)
/-- every object of the heap is kept -/
theorem HOk.kept (x : HOk P w H h) (k : ∀ b u, h.get? b = some u → h'.get? b = some u) : HOk P w H h' := fun a o e =>
  (x a o e).stay (fun b u _ q => k b u q) (fun _ q => q) fun _ _ q => q
/-- a new object is laid and tracked -/
theorem HOk.laid (x : HOk P w H h) (k : ∀ b u, h.get? b = some u → h'.get? b = some u) (hp : h.objs.size ≤ a) (new : ObjOk P w (upd H a o) h' a o) : HOk P w (upd H a o) h' := fun b u e => by
  have hn := x.fresh hp
  by_cases hb : b = a
  · subst hb; rw [upd_same] at e; cases e; exact new
  · rw [upd_ne hb] at e
    exact (x b u e).stay (fun c v _ q => k c v q) (fun c q => by rw [upd_ne (ne_of_none q hn)]; exact q) fun c xs q => by rw [upd_ne (ne_of_none q hn)]; exact q
end

/-- what may be read as u: it is u, or a known u -/
def Rd (H : Hp) (a : Addr) (u : HO) : Prop := H a = some u ∨ ∃ o, H a = some (.frz o u)
theorem Rd.ok {P : Program} {w : World} {H : Hp} {h : Heap} {a : Addr} {u : HO} (r : Rd H a u) (x : HOk P w H h) : ObjOk P w H h a u := by
  rcases r with r | ⟨o, r⟩
  · exact x a u r
  · obtain ⟨_, q⟩ := x a _ r
    exact q
/-- what may be written -/
def Mut : Option HO → Prop
  | some (.lst _) => True
  | some (.dK _) => True
  | some (.dT _) => True
  | some (.set _ _) => True
  | some (.ins _ _ _) => True
  | some (.ext _) => True
  | _ => False
section
variable {P : Program} {w : World} {H : Hp} {h h' : Heap} {x e : Addr} {o' : HO}
/-- the object at e is changed: x itself, or the dict of the instance x -/
theorem HOk.write (ok : HOk P w H h) (mu : Mut (H x)) (he : e = x ∨ H e = some (.own x)) (k : ∀ b u, b ≠ e → h.get? b = some u → h'.get? b = some u) (heo : ∃ u, h'.get? e = some u)
    (new : ObjOk P w (upd H x o') h' x o') : HOk P w (upd H x o') h' := fun b u q => by
  have nown : ∀ c y, H c = some (.own y) → c ≠ x := fun c y r z => by subst z; rw [r] at mu; exact mu
  have ntup : ∀ c xs, H c = some (.tup xs) → c ≠ x := fun c xs r z => by subst z; rw [r] at mu; exact mu
  by_cases hb : b = x
  · subst hb; rw [upd_same] at q; cases q; exact new
  · rw [upd_ne hb] at q
    by_cases hbe : b = e
    · have q' : H b = some (.own x) := by
        rcases he with z | z
        · exact absurd (hbe.trans z) hb
        · rw [hbe]; exact z
      rw [q] at q'; cases q'
      obtain ⟨v, hv⟩ := heo
      exact ⟨v, by rw [hbe]; exact hv⟩
    · refine (ok b u q).stay (fun c v hc r => k c v ?_ r) (fun c r => by rw [upd_ne (nown c b r)]; exact r) fun c xs r => by rw [upd_ne (ntup c xs r)]; exact r
      rcases hc with rfl | hc
      · exact hbe
      · rintro rfl
        rcases he with z | z
        · exact nown c b hc z
        · rw [hc] at z; cases z; exact hb rfl
end

structure Un (fs ex : List Addr) (H H' : Hp) (h h' : Heap) : Prop where
  keep : ∀ b o, h.get? b = some o → H b = none → b ∉ fs → b ∉ ex → h'.get? b = some o
  slot : ∀ b o, h.get? b = some o → H b = none → b ∈ fs → b ∉ ex → ∃ sl, h'.get? b = some { o with slots := sl }
  free : ∀ b o, h.get? b = some o → H b = none → b ∉ ex → H' b = none
  there : ∀ b o, h.get? b = some o → b ∉ ex → ∃ o', h'.get? b = some o'
  tups : ∀ b xs, H b = some (.tup xs) → H' b = some (.tup xs)
  frzs : ∀ b o u, H b = some (.frz o u) → H' b = some (.frz o u)
  tbls : ∀ b ps, H b = some (.tbl ps) → ∃ more, H' b = some (.tbl (ps ++ more))
section
variable {fs fs' ex ex' : List Addr} {H H1 H2 : Hp} {h h1 h2 h' : Heap} {a x e : Addr} {o : HO}
theorem Un.any (u : Un fs ex H H1 h h1) {b : Addr} {ob : Obj} (q : h.get? b = some ob) (n : H b = none) (hx : b ∉ ex) : ∃ sl, h1.get? b = some { ob with slots := sl } := by
  by_cases hb : b ∈ fs
  · exact u.slot b ob q n hb hx
  · exact ⟨ob.slots, u.keep b ob q n hb hx⟩
theorem Un.kept (k : ∀ b u, h.get? b = some u → h'.get? b = some u) : Un fs ex H H h h' :=
  ⟨fun b ob q _ _ _ => k b ob q, fun b ob q _ _ _ => ⟨ob.slots, k b ob q⟩, fun _ _ _ n _ => n, fun b ob q _ => ⟨ob, k b ob q⟩, fun _ _ q => q, fun _ _ _ q => q, fun _ ps q => ⟨#[], by rw [q]; simp⟩⟩
theorem Un.refl : Un fs ex H H h h := Un.kept fun _ _ q => q
theorem Un.laid (k : ∀ b u, h.get? b = some u → h'.get? b = some u) (hp : h.objs.size ≤ a) (hn : H a = none) : Un fs ex H (upd H a o) h h' where
  keep := fun b u q _ _ _ => k b u q
  slot := fun b u q _ _ _ => ⟨u.slots, k b u q⟩
  free := fun b u q n _ => by rw [upd_ne (Nat.ne_of_lt (Nat.lt_of_lt_of_le (Heap.lt_size q) hp))]; exact n
  there := fun b u q _ => ⟨u, k b u q⟩
  tups := fun b xs q => by rw [upd_ne (ne_of_none q hn)]; exact q
  frzs := fun b u xs q => by rw [upd_ne (ne_of_none q hn)]; exact q
  tbls := fun b ps q => ⟨#[], by rw [upd_ne (ne_of_none q hn), q]; simp⟩
theorem Un.write (mu : Mut (H x)) (he : e = x ∨ H e = some (.own x)) (k : ∀ b u, b ≠ e → h.get? b = some u → h'.get? b = some u) (heo : ∃ u, h'.get? e = some u) : Un fs ex H (upd H x o) h h' := by
  have hx : ∀ b, H b = none → b ≠ x := fun b n z => by subst z; rw [n] at mu; exact mu
  have hb : ∀ b, H b = none → b ≠ e := fun b n z => by
    subst z
    rcases he with r | r
    · exact hx b n r
    · rw [n] at r; cases r
  have hm : ∀ b u, H b = some u → ¬ Mut (some u) → b ≠ x := fun b u q nm z => by subst z; rw [q] at mu; exact nm mu
  refine ⟨fun b u q n _ _ => k b u (hb b n) q, fun b u q n _ _ => ⟨u.slots, k b u (hb b n) q⟩, fun b u q n _ => by rw [upd_ne (hx b n)]; exact n, fun b u q _ => ?_,
    fun b xs q => by rw [upd_ne (hm b _ q fun z => z)]; exact q, fun b u xs q => by rw [upd_ne (hm b _ q fun z => z)]; exact q, fun b ps q => ⟨#[], by rw [upd_ne (hm b _ q fun z => z), q]; simp⟩⟩
  by_cases hbe : b = e
  · subst hbe; exact heo
  · exact ⟨u, k b u hbe q⟩
end

def trk (h : Heap) (H : Hp) : List Addr := (List.range h.objs.size).filter fun a => (H a).isSome
def hidT (h : Heap) (H : Hp) : Heap := PySem.W.hideAll h (trk h H)
theorem hidT_size (h : Heap) (H : Hp) : (hidT h H).objs.size = h.objs.size := PySem.W.hideAll_size _ _
theorem hidT_get {h : Heap} {H : Hp} {b : Addr} {o : Obj} (e : h.get? b = some o) (n : H b = none) : (hidT h H).get? b = some o :=
  PySem.W.hideAll_get _ e fun hm => by
    have q : (H b).isSome = true := (List.mem_filter.mp hm).2
    rw [n] at q; simp at q
theorem of_hidT {h : Heap} {H : Hp} {b : Addr} {o : Obj} (e : (hidT h H).get? b = some o) : h.get? b = some o ∧ H b = none := by
  have e' : h.get? b = some o := PySem.W.of_hideAll (trk h H) e
  refine ⟨e', ?_⟩
  cases q : H b with
  | none => rfl
  | some x =>
    have hm : b ∈ trk h H := List.mem_filter.mpr ⟨List.mem_range.mpr (Heap.lt_size e'), by simp [q]⟩
    have z : (hidT h H).get? b = none := PySem.W.hideAll_none (trk h H) hm
    rw [z] at e; cases e

end L2

namespace L2
open PySem PySem.Spec PyProof.Rows

/-- the module's facts, over the base: the heap at the law's entry without what is tracked there -/
structure Mod (K : PySem.W.Frag) (mg : Str → Option Value) (base : Heap) : Prop where
  kin : K.In base
  glob : base.Ns mainGlobals mg
  blt : ∃ mb, base.Ns builtinsNs mb ∧ ∀ x : Str, x ≠ "__name__" → mb x = bootBuiltins x
  nolimit : base.NoLimit
  seer : base.NoSeer

/-- the context: a def's body (or a comprehension's block) running. base: fixed through the whole law; s₀, H₀: the entry; outer: the frames whose slots others may change (a def's callers); stack: all frames that run;
   ex: iterators that were made ahead of the entry and are walked here (a comprehension's); fn: the names whose cells were made at the entry (a def: all; a comprehension's block: its own); calm: not within an except suite; pn: pins that every state bears; xe: what is wanted of an exception that leaves the code -/
structure Cx where
  prog : Program
  w : World
  K : PySem.W.Frag
  mg : Str → Option Value
  base : Heap
  A : Around
  N : List Str
  s_0 : Shared
  H_0 : Hp
  env : Env
  outer : List Env
  stack : List Env
  ex : List Addr
  fn : Str → Bool
  calm : Bool
  pn : List (Addr × Obj)
  xe : Value → Shared → Prop
/-- the callers' frames -/
def frs (l : List Env) : List Addr := l.filterMap (·.frame)
abbrev Cx.fs (X : Cx) : List Addr := frs X.outer

def Vis (sc : Scope) (x : Str) : Prop := sc.names.lookup x = some .local ∨ sc.names.lookup x = some .cell ∨ sc.names.lookup x = some .free
def Loc (sc : Scope) (x : Str) : Prop := sc.names.lookup x = some .local ∨ sc.names.lookup x = some .cell
def Look (env : Env) (h : Heap) (m : Str → Option Value) (x : Str) (u : Value) : Prop :=
  (env.kindOf x = some .local ∧ m x = some u) ∨ ((env.kindOf x = some .cell ∨ env.kindOf x = some .free) ∧ ∃ c, env.cells.lookup x = some c ∧ h.IsCell c (some u))

structure Cx.Ok (X : Cx) : Prop where
  mod : Mod X.K X.mg X.base
  kind : X.env.scope.kind = .function
  glob : X.env.globals = mainGlobals
  blt : X.env.builtins = builtinsNs
  above : X.s_0.heap.objs.size ≤ X.env.locals
  inj : ∀ x y c, X.env.cells.lookup x = some c → X.env.cells.lookup y = some c → x = y
  has : ∀ x, (X.env.kindOf x = some .cell ∨ X.env.kindOf x = some .free) → ∃ c, X.env.cells.lookup x = some c
  cab : ∀ x c, X.fn x = true → X.env.cells.lookup x = some c → X.s_0.heap.objs.size ≤ c
  hd : X.calm = true → X.A.handled = none
  frames : X.A.frames = some X.stack
  stk : X.stack = X.outer ∨ (X.stack = X.env :: X.outer ∧ X.env.frame = some X.env.locals)
  exf : ∀ b ∈ X.ex, b ≠ X.env.locals ∧ ∀ x c, X.env.cells.lookup x = some c → c ≠ b
  bs : ∀ b o, X.base.get? b = some o → X.s_0.heap.get? b = some o ∧ X.H_0 b = none
  bsz : X.base.objs.size ≤ X.s_0.heap.objs.size
  noex : ∀ b o, X.base.get? b = some o → b ∉ X.ex
  exfs : ∀ b ∈ X.ex, b ∉ X.fs
  funs : X.s_0.heap.FunFrames X.base X.outer
  frf : ∀ b ∈ X.fs, X.H_0 b = none

structure Inv (X : Cx) (pins : List (Addr × Obj)) (σ : List (Option V)) (H : Hp) (s : Shared) : Prop where
  ok : X.Ok
  os : s.os = X.s_0.os
  bare : AllBare s.gens
  base : Un X.fs X.ex X.H_0 H X.s_0.heap s.heap
  loc : ∃ m, s.heap.Ns X.env.locals m ∧ ∀ (i : Nat) (x : Str) (v : V), X.N[i]? = some x → σ[i]? = some (some v) → Vis X.env.scope x → ∃ u, RelV v u ∧ Look X.env s.heap m x u
  cell : ∀ x c, X.env.cells.lookup x = some c → ∃ v, s.heap.IsCell c v
  free : H X.env.locals = none
  freeC : ∀ x c, X.env.cells.lookup x = some c → H c = none
  pin : ∀ p ∈ X.pn ++ pins, s.heap.get? p.1 = some p.2 ∧ H p.1 = none ∧ p.1 ≠ X.env.locals ∧ p.1 ∉ X.fs ∧ ∀ v, p.2.data ≠ .cell v
  hok : HOk X.prog X.w H s.heap
  len : σ.length = X.N.length

section
variable {X : Cx} {pins : List (Addr × Obj)} {σ : List (Option V)} {H H' : Hp} {s : Shared} {h' : Heap}

theorem Cx.Ok.nofr (ok : X.Ok) {b : Addr} {o : Obj} (e : X.base.get? b = some o) : b ∉ X.fs := fun hb => by
  have := (ok.funs.mem hb).1
  rw [e] at this; cases this
theorem Inv.bs (I : Inv X pins σ H s) : ∀ b o, X.base.get? b = some o → s.heap.get? b = some o ∧ H b = none := fun b o e =>
  ⟨I.base.keep b o (I.ok.bs b o e).1 (I.ok.bs b o e).2 (I.ok.nofr e) (I.ok.noex b o e), I.base.free b o (I.ok.bs b o e).1 (I.ok.bs b o e).2 (I.ok.noex b o e)⟩
theorem Inv.bk (I : Inv X pins σ H s) : ∀ b o, X.base.get? b = some o → s.heap.get? b = some o := fun b o e => (I.bs b o e).1
theorem Inv.mod (I : Inv X pins σ H s) : Mod X.K X.mg X.base := I.ok.mod
theorem Inv.kIn (I : Inv X pins σ H s) : X.K.In s.heap := I.ok.mod.kin.keeps I.bk
theorem Inv.nolimit (I : Inv X pins σ H s) : s.heap.NoLimit := I.ok.mod.nolimit.keeps I.bk
/-- the frame over the base: for OpenK's rules (K.In X.base is I.mod.kin) -/
theorem Inv.fr (I : Inv X pins σ H s) : ∃ m, Fr X.base X.env.locals s.heap m :=
  let ⟨m, hn, _⟩ := I.loc
  ⟨m, hn, I.bk, Nat.le_trans I.ok.bsz I.ok.above⟩
theorem Inv.lt (I : Inv X pins σ H s) : X.env.locals < s.heap.objs.size := let ⟨_, hn, _⟩ := I.loc; hn.lt
theorem Inv.sz (I : Inv X pins σ H s) : X.s_0.heap.objs.size ≤ s.heap.objs.size := Nat.le_trans I.ok.above (Nat.le_of_lt I.lt)
theorem Inv.nofs (I : Inv X pins σ H s) {a : Addr} (h : s.heap.objs.size ≤ a) : a ∉ X.fs := fun hb => by
  obtain ⟨_, o, ho, _⟩ := I.ok.funs.mem hb
  exact absurd (Nat.lt_of_lt_of_le (Heap.lt_size ho) (Nat.le_trans I.sz h)) (Nat.lt_irrefl _)
theorem Inv.cne (I : Inv X pins σ H s) : ∀ x c, X.env.cells.lookup x = some c → c ≠ X.env.locals := fun x c e z => by
  obtain ⟨v, o, ho, hd⟩ := I.cell x c e
  obtain ⟨m, ⟨o', es, ep, ho', hd', _⟩, _⟩ := I.loc
  rw [z, ho'] at ho; cases ho; rw [hd'] at hd; cases hd
theorem Inv.funs (I : Inv X pins σ H s) : s.heap.FunFrames X.base X.outer := by
  have all : ∀ (l : List Env), (∀ b ∈ frs l, b ∈ X.fs) → X.s_0.heap.FunFrames X.base l → s.heap.FunFrames X.base l := by
    intro l
    induction l with
    | nil => intro _ _; trivial
    | cons env r ih =>
      intro hs hl
      obtain ⟨hk, ⟨L, o, hf, hn, ho, hd⟩, hr⟩ := hl
      have hL : L ∈ X.fs := hs L (by unfold frs; rw [List.filterMap_cons, hf]; exact List.mem_cons_self)
      obtain ⟨sl, e⟩ := I.base.slot L o ho (I.ok.frf L hL) hL fun z => I.ok.exfs L z hL
      exact ⟨hk, ⟨L, _, hf, hn, e, hd⟩, ih (fun b hb => hs b (by unfold frs; rw [List.filterMap_cons, hf]; exact List.mem_cons_of_mem _ hb)) hr⟩
  exact all X.outer (fun _ hb => hb) I.ok.funs

/-- the frames that run, for a call -/
theorem Inv.stack (I : Inv X pins σ H s) : s.heap.FunFrames X.base X.stack := by
  rcases I.ok.stk with e | ⟨e, hf⟩
  · rw [e]; exact I.funs
  · rw [e]
    obtain ⟨m, hn, _⟩ := I.loc
    refine .cons (by rw [I.ok.kind]; decide) hf hn ?_ I.funs
    exact Heap.get?_none_of_le (Nat.le_trans I.ok.bsz I.ok.above)
theorem Inv.stkSub (I : Inv X pins σ H s) : ∀ b ∈ frs X.stack, b ∈ X.env.locals :: X.fs := fun b hb => by
  rcases I.ok.stk with e | ⟨e, hf⟩
  · rw [e] at hb; exact List.mem_cons_of_mem _ hb
  · rw [e] at hb
    unfold frs at hb
    rw [List.filterMap_cons, hf] at hb
    exact hb
theorem Inv.stkFree (I : Inv X pins σ H s) : ∀ b ∈ frs X.stack, H b = none := fun b hb => by
  rcases List.mem_cons.mp (I.stkSub b hb) with e | hb
  · rw [e]; exact I.free
  · obtain ⟨_, o, ho, _⟩ := I.ok.funs.mem hb
    exact I.base.free b o ho (I.ok.frf b hb) fun z => I.ok.exfs b z hb

/-- THE STEP: the untracked objects but the frame and the records at ch are kept (the callers' frames up to slots), the frame's map is kept, the new abstract heap is held -/
theorem Inv.step {g' : Array GenState} {t' : Nat} {d' : Drawn} {ch : List Addr} (I : Inv X pins σ H s)
    (hch : ∀ b ∈ ch, (b ∈ X.ex ∨ X.s_0.heap.objs.size ≤ b) ∧ b ≠ X.env.locals ∧ (∀ x c, X.env.cells.lookup x = some c → c ≠ b) ∧ ∀ p ∈ X.pn ++ pins, p.1 ≠ b)
    (keep : ∀ b o, b ≠ X.env.locals → b ∉ X.fs → b ∉ ch → s.heap.get? b = some o → H b = none → h'.get? b = some o)
    (slot : ∀ b o, b ≠ X.env.locals → b ∈ X.fs → b ∉ ch → s.heap.get? b = some o → H b = none → ∃ sl, h'.get? b = some { o with slots := sl }) (free : ∀ b o, b ∉ ch → s.heap.get? b = some o → H b = none → H' b = none)
    (there : ∀ b o, b ∉ ch → s.heap.get? b = some o → ∃ o', h'.get? b = some o')
    (tups : ∀ b xs, H b = some (.tup xs) → H' b = some (.tup xs)) (frzs : ∀ b o u, H b = some (.frz o u) → H' b = some (.frz o u)) (tbls : ∀ b ps, H b = some (.tbl ps) → ∃ more, H' b = some (.tbl (ps ++ more)))
    (ns : ∀ m, s.heap.Ns X.env.locals m → h'.Ns X.env.locals m) (hok : HOk X.prog X.w H' h') (hg : AllBare g') :
    Inv X pins σ H' { s with heap := h', gens := g', drawn := d', toks := t' } := by
  have neL : ∀ b o, X.s_0.heap.get? b = some o → b ≠ X.env.locals := fun b o e => Nat.ne_of_lt (Nat.lt_of_lt_of_le (Heap.lt_size e) I.ok.above)
  have neC : ∀ b o, X.s_0.heap.get? b = some o → b ∉ X.ex → b ∉ ch := fun b o e hx hb => by
    rcases (hch b hb).1 with z | z
    · exact hx z
    · exact absurd (Nat.lt_of_lt_of_le (Heap.lt_size e) z) (Nat.lt_irrefl _)
  have cellK : ∀ x c, X.env.cells.lookup x = some c → ∀ v, s.heap.IsCell c v → h'.IsCell c v := fun x c e v ⟨o, ho, hd⟩ => by
    have nch : c ∉ ch := fun z => (hch c z).2.2.1 x c e rfl
    by_cases hc : c ∈ X.fs
    · obtain ⟨sl, q⟩ := slot c o (I.cne x c e) hc nch ho (I.freeC x c e)
      exact ⟨_, q, hd⟩
    · exact ⟨o, keep c o (I.cne x c e) hc nch ho (I.freeC x c e), hd⟩
  refine ⟨I.ok, I.os, hg, ⟨fun b o e n hb hx => ?_, fun b o e n hb hx => ?_, fun b o e n hx => ?_, fun b o e hx => ?_, fun b xs e => tups b xs (I.base.tups b xs e), fun b o xs e => frzs b o xs (I.base.frzs b o xs e), fun b ps e => ?_⟩, ?_, fun x c e => ?_, ?_, fun x c e => ?_, fun p hp => ?_, hok, I.len⟩
  · exact keep b o (neL b o e) hb (neC b o e hx) (I.base.keep b o e n hb hx) (I.base.free b o e n hx)
  · obtain ⟨sl, e1⟩ := I.base.slot b o e n hb hx
    obtain ⟨sl', e2⟩ := slot b _ (neL b o e) hb (neC b o e hx) e1 (I.base.free b o e n hx)
    exact ⟨sl', e2⟩
  · obtain ⟨o', e1⟩ := I.base.there b o e hx
    exact free b o' (neC b o e hx) e1 (I.base.free b o e n hx)
  · obtain ⟨o', e1⟩ := I.base.there b o e hx
    exact there b o' (neC b o e hx) e1
  · obtain ⟨m1, e1⟩ := I.base.tbls b ps e
    obtain ⟨m2, e2⟩ := tbls b _ e1
    exact ⟨m1 ++ m2, by rw [e2, Array.append_assoc]⟩
  · obtain ⟨m, hn, hl⟩ := I.loc
    refine ⟨m, ns m hn, fun i x v e1 e2 e3 => ?_⟩
    obtain ⟨u, r, l⟩ := hl i x v e1 e2 e3
    refine ⟨u, r, ?_⟩
    rcases l with l | ⟨k, c, e, z⟩
    · exact .inl l
    · exact .inr ⟨k, c, e, cellK x c e _ z⟩
  · obtain ⟨v, z⟩ := I.cell x c e
    exact ⟨v, cellK x c e v z⟩
  · obtain ⟨m, ⟨o, _, _, ho, _⟩, _⟩ := I.loc
    exact free _ o (fun z => (hch _ z).2.1 rfl) ho I.free
  · obtain ⟨v, o, ho, hd⟩ := I.cell x c e
    exact free c o (fun z => (hch c z).2.2.1 x c e rfl) ho (I.freeC x c e)
  · obtain ⟨e, n, ne, nf, d⟩ := I.pin p hp
    have nch : p.1 ∉ ch := fun z => (hch p.1 z).2.2.2 p hp rfl
    exact ⟨keep p.1 p.2 ne nf nch e n, free p.1 p.2 nch e n, ne, nf, d⟩
/-- .. where the frame's own object is kept too -/
theorem Inv.un {t' : Nat} (I : Inv X pins σ H s) (u : Un X.fs [] H H' s.heap h') (hok : HOk X.prog X.w H' h') : Inv X pins σ H' { s with heap := h', toks := t' } := by
  obtain ⟨m, ⟨o, es, ep, ho, r⟩, _⟩ := id I.loc
  obtain ⟨sl, hL⟩ := u.any ho I.free (by simp)
  exact I.step (g' := s.gens) (d' := s.drawn) (ch := []) (fun _ z => nomatch z) (fun b o _ hb _ e n => u.keep b o e n hb (by simp)) (fun b o _ hb _ e n => u.slot b o e n hb (by simp)) (fun b o _ e n => u.free b o e n (by simp)) (fun b o _ e => u.there b o e (by simp)) u.tups u.frzs u.tbls (fun m' hm => by
    obtain ⟨o', es', ep', ho', r'⟩ := hm
    rw [ho] at ho'; cases ho'
    exact ⟨_, es', ep', hL, r'⟩) hok I.bare
/-- behind a call (or a comprehension's block): the slots of this frame may have changed too, the records at ch may have turned -/
theorem Inv.call {g' : Array GenState} {t' : Nat} {d' : Drawn} {ch : List Addr} (I : Inv X pins σ H s) (u : Un (frs X.stack) ch H H' s.heap h') (hok : HOk X.prog X.w H' h') (hg : AllBare g')
    (hch : ∀ b ∈ ch, (b ∈ X.ex ∨ X.s_0.heap.objs.size ≤ b) ∧ b ≠ X.env.locals ∧ (∀ x c, X.env.cells.lookup x = some c → c ≠ b) ∧ ∀ p ∈ X.pn ++ pins, p.1 ≠ b) :
    Inv X pins σ H' { s with heap := h', gens := g', drawn := d', toks := t' } := by
  obtain ⟨m, ⟨o, es, ep, ho, r⟩, _⟩ := id I.loc
  obtain ⟨sl, hL⟩ := u.any ho I.free fun z => (hch _ z).2.1 rfl
  exact I.step (ch := ch) hch (fun b o hL hb hc e n => u.keep b o e n (fun z => (List.mem_cons.mp (I.stkSub b z)).elim hL hb) hc) (fun b o _ _ hc e n => u.any e n hc) (fun b o hc e n => u.free b o e n hc) (fun b o hc e => u.there b o e hc) u.tups u.frzs u.tbls (fun m' hm => by
    obtain ⟨o', es', ep', ho', r'⟩ := hm
    rw [ho] at ho'; cases ho'
    exact ⟨_, es', ep', hL, r'⟩) hok hg
/-- an untracked record of ours (an iterator) has turned -/
theorem Inv.turned {t' : Nat} {it : Addr} (I : Inv X pins σ H s) (k : ∀ b o, b ≠ it → s.heap.get? b = some o → h'.get? b = some o) (hn : H it = none) (hL : it ≠ X.env.locals)
    (h1 : it ∈ X.ex ∨ X.s_0.heap.objs.size ≤ it) (h2 : ∀ x c, X.env.cells.lookup x = some c → c ≠ it) (h3 : ∀ p ∈ X.pn ++ pins, p.1 ≠ it) : Inv X pins σ H { s with heap := h', toks := t' } := by
  have nit : ∀ b u, H b = some u → b ≠ it := fun b u e z => by rw [z, hn] at e; cases e
  refine I.step (g' := s.gens) (d' := s.drawn) (ch := [it]) (fun b hb => ?_) (fun b o _ _ hc e _ => k b o (fun z => hc (by simp [z])) e) (fun b o _ _ hc e _ => ⟨o.slots, k b o (fun z => hc (by simp [z])) e⟩) (fun _ _ _ _ n => n)
    (fun b o hc e => ⟨o, k b o (fun z => hc (by simp [z])) e⟩) (fun _ _ e => e) (fun _ _ _ e => e) (fun b ps e => ⟨#[], by rw [e]; simp⟩) (fun m hm => ?_) (fun b u e => ?_) I.bare
  · have e : b = it := by simpa using hb
    subst e
    exact ⟨h1, hL, h2, h3⟩
  · obtain ⟨o, es, ep, ho, r⟩ := hm
    exact ⟨o, es, ep, k _ o (Ne.symm hL) ho, r⟩
  · refine (I.hok b u e).stay (fun c v hc q => k c v ?_ q) (fun _ q => q) fun _ _ q => q
    rcases hc with z | z
    · rw [z]; exact nit b u e
    · exact nit c _ z
theorem Inv.tok (I : Inv X pins σ H s) (t : Nat) : Inv X pins σ H { s with toks := t } := I.un (h' := s.heap) (t' := t) Un.refl I.hok
/-- all objects kept -/
theorem Inv.kept {t' : Nat} (I : Inv X pins σ H s) (k : ∀ b u, s.heap.get? b = some u → h'.get? b = some u) : Inv X pins σ H { s with heap := h', toks := t' } := I.un (Un.kept k) (I.hok.kept k)
/-- a new object laid and tracked -/
theorem Inv.laid {a : Addr} {o : HO} {t' : Nat} (I : Inv X pins σ H s) (k : ∀ b u, s.heap.get? b = some u → h'.get? b = some u) (hp : s.heap.objs.size ≤ a) (new : ObjOk X.prog X.w (upd H a o) h' a o) :
    Inv X pins σ (upd H a o) { s with heap := h', toks := t' } := I.un (Un.laid k hp (I.hok.fresh hp)) (I.hok.laid k hp new)
/-- an object written -/
theorem Inv.write {x e : Addr} {o : HO} {t' : Nat} (I : Inv X pins σ H s) (mu : Mut (H x)) (he : e = x ∨ H e = some (.own x)) (k : ∀ b u, b ≠ e → s.heap.get? b = some u → h'.get? b = some u) (heo : ∃ u, h'.get? e = some u)
    (new : ObjOk X.prog X.w (upd H x o) h' x o) : Inv X pins σ (upd H x o) { s with heap := h', toks := t' } := I.un (Un.write mu he k heo) (I.hok.write mu he k heo new)
/-- forgetting slots, pins -/
theorem Inv.weak {σ' : List (Option V)} (I : Inv X pins σ H s) (hl : σ'.length = σ.length) (w : ∀ (i : Nat) v, σ'[i]? = some (some v) → σ[i]? = some (some v)) : Inv X pins σ' H s :=
  ⟨I.ok, I.os, I.bare, I.base, let ⟨m, hn, hl'⟩ := I.loc; ⟨m, hn, fun i x v e1 e2 e3 => hl' i x v e1 (w i v e2) e3⟩, I.cell, I.free, I.freeC, I.pin, I.hok, hl.trans I.len⟩
theorem Inv.pins_of {pins' : List (Addr × Obj)} (I : Inv X pins σ H s) (h : ∀ p ∈ pins', s.heap.get? p.1 = some p.2 ∧ H p.1 = none ∧ p.1 ≠ X.env.locals ∧ p.1 ∉ X.fs ∧ ∀ v, p.2.data ≠ .cell v) : Inv X pins' σ H s :=
  ⟨I.ok, I.os, I.bare, I.base, I.loc, I.cell, I.free, I.freeC, fun p hp => (List.mem_append.mp hp).elim (fun z => I.pin p (List.mem_append_left _ z)) (h p), I.hok, I.len⟩

theorem nodup_ix {N : List Str} (hN : N.Nodup) {i j : Nat} {x : Str} (a : N[i]? = some x) (b : N[j]? = some x) : i = j := by
  obtain ⟨h1, e1⟩ := List.getElem?_eq_some_iff.mp a
  obtain ⟨h2, e2⟩ := List.getElem?_eq_some_iff.mp b
  exact (List.getElem_inj hN).mp (e1.trans e2.symm)

/-- a name is stored; what changed -/
theorem store_ok2 {M : Model} {A : Around} {E : Value → Shared → Prop} {i : Nat} {x : Str} {v : V} {u : Value} {Q : Unit → Shared → Prop} (I : Inv X pins σ H s) (hN : X.N.Nodup) (hi : X.N[i]? = some x) (hx : Loc X.env.scope x) (r : RelV v u)
    (h : ∀ s', Inv X pins (σ.set i (some v)) H s' → (∃ a, Heap.SameBut a s.heap s'.heap ∧ (a = X.env.locals ∨ X.env.cells.lookup x = some a)) → Q () s') (hf : X.fn x = true ∨ X.env.scope.names.lookup x = some .local := by first | exact .inl rfl | exact .inr rfl | assumption) : wpAny M A (storeName X.env x u) Q E s := by
  obtain ⟨m, hn, hl⟩ := id I.loc
  have hcls : (X.env.scope.kind == .class || (X.env.scope.kind == .module && X.env.locals != X.env.globals)) = false := by rw [I.ok.kind]; rfl
  have hiσ : i < σ.length := by rw [I.len]; exact (List.getElem?_eq_some_iff.mp hi).1
  have cne := I.cne
  have tracked : ∀ {a : Addr} {h' : Heap}, (∃ o, s.heap.get? a = some o ∧ H a = none) → Heap.SameBut a s.heap h' → HOk X.prog X.w H h' := fun {a h'} ha hs b ob e => by
    obtain ⟨_, _, hfree⟩ := ha
    refine (I.hok b ob e).stay (fun c w' hc q => (hs.2 c ?_).trans q) (fun _ q => q) fun _ _ q => q
    rintro rfl
    rcases hc with rfl | hc
    · rw [hfree] at e; cases e
    · rw [hfree] at hc; cases hc
  rcases hx with hk | hk
  · refine wpAny_storeName_local hk hn (fun h' hn' hs => ?_) hcls
    obtain ⟨oL, _, _, hoL, _⟩ := id hn
    refine h _ ⟨I.ok, I.os, I.bare, ⟨fun b o e n hb hx => ?_, fun b o e n hb hx => ?_, I.base.free, fun b o e hx => ?_, I.base.tups, I.base.frzs, I.base.tbls⟩, ⟨_, hn', fun j y v' e1 e2 e3 => ?_⟩, fun y c e => ?_, I.free, I.freeC, fun p hp => ?_, tracked ⟨oL, hoL, I.free⟩ hs, by simpa using I.len⟩ ⟨_, hs, .inl rfl⟩
    · exact (hs.2 b (Nat.ne_of_lt (Nat.lt_of_lt_of_le (Heap.lt_size e) I.ok.above))).trans (I.base.keep b o e n hb hx)
    · obtain ⟨sl, e1⟩ := I.base.slot b o e n hb hx
      exact ⟨sl, (hs.2 b (Nat.ne_of_lt (Nat.lt_of_lt_of_le (Heap.lt_size e) I.ok.above))).trans e1⟩
    · obtain ⟨o', e1⟩ := I.base.there b o e hx
      exact ⟨o', (hs.2 b (Nat.ne_of_lt (Nat.lt_of_lt_of_le (Heap.lt_size e) I.ok.above))).trans e1⟩
    · by_cases hj : j = i
      · subst hj
        rw [hi] at e1; cases e1
        rw [List.getElem?_set_self hiσ] at e2
        cases e2
        exact ⟨u, r, .inl ⟨hk, by simp⟩⟩
      · rw [List.getElem?_set_ne (Ne.symm hj)] at e2
        obtain ⟨u', r', q⟩ := hl j y v' e1 e2 e3
        refine ⟨u', r', ?_⟩
        rcases q with ⟨k, e⟩ | ⟨k, c, e, z⟩
        · refine .inl ⟨k, ?_⟩
          have : y ≠ x := fun e => hj (nodup_ix hN e1 (e ▸ hi))
          simp [this, e]
        · exact .inr ⟨k, c, e, z.sameBut hs (cne y c e)⟩
    · obtain ⟨w', z⟩ := I.cell y c e
      exact ⟨w', z.sameBut hs (cne y c e)⟩
    · obtain ⟨e, n, ne, nf, d⟩ := I.pin p hp
      exact ⟨(hs.2 p.1 ne).trans e, n, ne, nf, d⟩
  · have hfn : X.fn x = true := by
      rcases hf with z | z
      · exact z
      · rw [z] at hk; cases hk
    obtain ⟨c, hc⟩ := I.ok.has x (.inl hk)
    obtain ⟨w', z⟩ := I.cell x c hc
    refine wpAny_storeName_cell I.ok.kind hk hc z (fun h' hc' hs => ?_)
    obtain ⟨oc, hoc, hocd⟩ := id z
    refine h { s with heap := h' } ⟨I.ok, I.os, I.bare, ⟨fun b o e n hb hx => ?_, fun b o e n hb hx => ?_, I.base.free, fun b o e hx => ?_, I.base.tups, I.base.frzs, I.base.tbls⟩, ⟨m, hn.sameBut hs (Ne.symm (cne x c hc)), fun j y v' e1 e2 e3 => ?_⟩, fun y c' e => ?_, I.free, I.freeC, fun p hp => ?_, tracked ⟨oc, hoc, I.freeC x c hc⟩ hs, by simpa using I.len⟩ ⟨c, hs, .inr hc⟩
    · exact (hs.2 b (Nat.ne_of_lt (Nat.lt_of_lt_of_le (Heap.lt_size e) (I.ok.cab x c hfn hc)))).trans (I.base.keep b o e n hb hx)
    · obtain ⟨sl, e1⟩ := I.base.slot b o e n hb hx
      exact ⟨sl, (hs.2 b (Nat.ne_of_lt (Nat.lt_of_lt_of_le (Heap.lt_size e) (I.ok.cab x c hfn hc)))).trans e1⟩
    · obtain ⟨o', e1⟩ := I.base.there b o e hx
      exact ⟨o', (hs.2 b (Nat.ne_of_lt (Nat.lt_of_lt_of_le (Heap.lt_size e) (I.ok.cab x c hfn hc)))).trans e1⟩
    · by_cases hj : j = i
      · subst hj
        rw [hi] at e1; cases e1
        rw [List.getElem?_set_self hiσ] at e2
        cases e2
        exact ⟨u, r, .inr ⟨.inl hk, c, hc, hc'⟩⟩
      · rw [List.getElem?_set_ne (Ne.symm hj)] at e2
        obtain ⟨u', r', q⟩ := hl j y v' e1 e2 e3
        refine ⟨u', r', ?_⟩
        rcases q with q | ⟨k, c', e, z'⟩
        · exact .inl q
        · refine .inr ⟨k, c', e, z'.sameBut hs ?_⟩
          rintro rfl
          exact hj (nodup_ix hN e1 (I.ok.inj _ _ _ e hc ▸ hi))
    · by_cases hcc : c' = c
      · subst hcc; exact ⟨_, hc'⟩
      · obtain ⟨w2, z2⟩ := I.cell y c' e
        exact ⟨w2, z2.sameBut hs hcc⟩
    · obtain ⟨e, n, ne, nf, d⟩ := I.pin p hp
      refine ⟨(hs.2 p.1 ?_).trans e, n, ne, nf, d⟩
      intro q
      rw [q, hoc] at e
      have q' : oc = p.2 := Option.some.inj e
      exact d w' (by rw [← q']; exact hocd)
theorem store_ok {M : Model} {A : Around} {E : Value → Shared → Prop} {i : Nat} {x : Str} {v : V} {u : Value} {Q : Unit → Shared → Prop} (I : Inv X pins σ H s) (hN : X.N.Nodup) (hi : X.N[i]? = some x) (hx : Loc X.env.scope x) (r : RelV v u)
    (h : ∀ s', Inv X pins (σ.set i (some v)) H s' → Q () s') (hf : X.fn x = true ∨ X.env.scope.names.lookup x = some .local := by first | exact .inl rfl | exact .inr rfl | assumption) : wpAny M A (storeName X.env x u) Q E s :=
  store_ok2 I hN hi hx r (fun s' I' _ => h s' I') hf
/-- behind a call or a block, the state as it is -/
theorem Inv.call' {s' : Shared} {ch : List Addr} (I : Inv X pins σ H s) (ho : s'.os = s.os) (u : Un (frs X.stack) ch H H' s.heap s'.heap) (hok : HOk X.prog X.w H' s'.heap) (hg : AllBare s'.gens)
    (hch : ∀ b ∈ ch, (b ∈ X.ex ∨ X.s_0.heap.objs.size ≤ b) ∧ b ≠ X.env.locals ∧ (∀ x c, X.env.cells.lookup x = some c → c ≠ b) ∧ ∀ p ∈ X.pn ++ pins, p.1 ≠ b) : Inv X pins σ H' s' := by
  obtain ⟨h', g', d', t', o'⟩ := s'
  have e : o' = s.os := ho
  subst e
  exact I.call (g' := g') (t' := t') (d' := d') u hok hg hch
end

/-- an exception: its class, its own dict's address (where it has one), the abstract heap behind it -/
abbrev XK := Value → Option Addr → Hp → Prop
abbrev St := List (Option V)
abbrev VK := V → Hp → Prop
/-- an expression's reading; a test's; an argument list's -/
abbrev TE := St → Hp → VK → Prop
abbrev TT := St → Hp → (Bool → Hp → Prop) → Prop
abbrev TA := St → Hp → (List V → Hp → Prop) → Prop
/-- what is wanted behind a statement -/
structure Ends where
  nx : St → Hp → Prop
  rt : VK
  bk : St → Hp → Prop := fun _ _ => False
  ct : St → Hp → Prop := fun _ _ => False
abbrev TS := Ends → St → Hp → Prop

def EP (X : Cx) (pins : List (Addr × Obj)) (σ : St) (Q : VK) (u : Value) (s' : Shared) : Prop := ∃ v H', Inv X pins σ H' s' ∧ RelV v u ∧ Q v H'
def TP (X : Cx) (pins : List (Addr × Obj)) (σ : St) (Q : Bool → Hp → Prop) (b : Bool) (s' : Shared) : Prop := ∃ H', Inv X pins σ H' s' ∧ Q b H'
def AP (X : Cx) (pins : List (Addr × Obj)) (σ : St) (Q : List V → Hp → Prop) (us : List Value) (s' : Shared) : Prop := ∃ vs H', Inv X pins σ H' s' ∧ Vals vs us ∧ Q vs H'
def SP (X : Cx) (pins : List (Addr × Obj)) (D : Ends) (f : Flow) (s' : Shared) : Prop :=
  match f with
  | .next => ∃ σ' H', Inv X pins σ' H' s' ∧ D.nx σ' H'
  | .brk => ∃ σ' H', Inv X pins σ' H' s' ∧ D.bk σ' H'
  | .cont => ∃ σ' H', Inv X pins σ' H' s' ∧ D.ct σ' H'
  | .ret u => ∃ v σ' H', Inv X pins σ' H' s' ∧ RelV v u ∧ D.rt v H'

def PE (X : Cx) (e : Expr) (t : TE) : Prop :=
  ∀ (pins : List (Addr × Obj)) (s : Shared) (σ : St) (H : Hp) (Q : VK), Inv X pins σ H s → t σ H Q → wpAny (model X.prog X.w) X.A (eval e X.env) (EP X pins σ Q) X.xe s
def PT (X : Cx) (e : Expr) (t : TT) : Prop :=
  ∀ (pins : List (Addr × Obj)) (s : Shared) (σ : St) (H : Hp) (Q : Bool → Hp → Prop), Inv X pins σ H s → t σ H Q → wpAny (model X.prog X.w) X.A (isTrue e X.env (eval e X.env)) (TP X pins σ Q) X.xe s
/-- a test whatever its 'whole' is (and, or) -/
def PW (X : Cx) (e : Expr) (t : TT) : Prop :=
  ∀ (whole : Sem Value) (pins : List (Addr × Obj)) (s : Shared) (σ : St) (H : Hp) (Q : Bool → Hp → Prop), Inv X pins σ H s → t σ H Q → wpAny (model X.prog X.w) X.A (isTrue e X.env whole) (TP X pins σ Q) X.xe s
theorem PW.pt {X : Cx} {e : Expr} {t : TT} (h : PW X e t) : PT X e t := h _
/-- an argument list (no star), from the left -/
def PA (X : Cx) (es : List Expr) (t : TA) : Prop :=
  ∀ (pos : Pos) (pins : List (Addr × Obj)) (s : Shared) (σ : St) (H : Hp) (Q : List V → Hp → Prop), Inv X pins σ H s → t σ H Q → wpAny (model X.prog X.w) X.A (spliced (backTo pos (starEach es X.env))) (AP X pins σ Q) X.xe s
def PS (X : Cx) (st : Stmt) (t : TS) : Prop :=
  ∀ (pins : List (Addr × Obj)) (s : Shared) (σ : St) (H : Hp) (D : Ends), Inv X pins σ H s → t D σ H → wpAny (model X.prog X.w) X.A (exec st X.env) (SP X pins D) X.xe s
def PSs (X : Cx) (st : List Stmt) (t : TS) : Prop :=
  ∀ (pins : List (Addr × Obj)) (s : Shared) (σ : St) (H : Hp) (D : Ends), Inv X pins σ H s → t D σ H → wpAny (model X.prog X.w) X.A (execs st X.env) (SP X pins D) X.xe s
/-- weaken the end -/
theorem thn {α : Type} {t : Sem α} {Q Q' : α → Shared → Prop} {M : Model} {A : Around} {E : Value → Shared → Prop} {s : Shared} (h : wpAny M A t Q E s) (hQ : ∀ a s, Q a s → Q' a s) : wpAny M A t Q' E s := wpAny_mono h hQ fun _ _ x => x
end L2

namespace L2
open PySem PySem.Spec PyProof.Rows
section
variable {X : Cx}

/-- two expressions in a row -/
theorem bin {a b : Expr} {ta tb : TE} (ha : PE X a ta) (hb : PE X b tb) {pins : List (Addr × Obj)} {s : Shared} {σ : St} {H : Hp} {R : V → V → Hp → Prop} (I : Inv X pins σ H s) (h : ta σ H fun x H1 => tb σ H1 fun y H2 => R x y H2)
    {α : Type} {Q : α → Shared → Prop} {f : Value → Value → Sem α}
    (hf : ∀ v u s2 x y H2, Inv X pins σ H2 s2 → RelV x v → RelV y u → R x y H2 → wpAny (model X.prog X.w) X.A (f v u) Q X.xe s2) :
    wpAny (model X.prog X.w) X.A (eval a X.env) (fun v s₁ => wpAny (model X.prog X.w) X.A (eval b X.env) (fun u s₂ => wpAny (model X.prog X.w) X.A (f v u) Q X.xe s₂) X.xe s₁) X.xe s := by
  refine thn (ha pins s σ H _ I h) fun v s1 ⟨x, H1, I1, r1, q1⟩ => ?_
  refine thn (hb pins s1 σ H1 _ I1 q1) fun u s2 ⟨y, H2, I2, r2, q2⟩ => ?_
  exact hf v u s2 x y H2 I2 r1 r2 q2

def tVar (i : Nat) : TE := fun σ H Q => ∃ v, σ[i]? = some (some v) ∧ Q v H
def tC (v : V) : TE := fun _ H Q => Q v H
theorem pe_var {i : Nat} {x : Str} {pos : Pos} (hN : X.N[i]? = some x) (hv : Vis X.env.scope x) (hd : (x == ("__debug__" : Str)) = false := by decide) (hcd : (x == ("__classdict__" : Str)) = false := by decide) : PE X (.Name x pos) (tVar i) := by
  intro pins s σ H Q I h
  obtain ⟨v, e, h⟩ := h
  obtain ⟨m, hn, hl⟩ := I.loc
  obtain ⟨u, r, l⟩ := hl i x v hN e hv
  have fin : EP X pins σ Q u s := ⟨v, H, I, r, h⟩
  rcases l with ⟨hk, hm⟩ | ⟨hk, c, hc, hcell⟩
  · exact wpAny_Name (wpAny_loadName_local I.ok.kind hk hn hm fin) hd
  · rcases hk with hk | hk
    · exact wpAny_Name (wpAny_loadName_cell I.ok.kind hk hc hcell fin) hd
    · exact wpAny_Name (wpAny_loadName_free I.ok.kind hk hc hcell fin hcd) hd
theorem pe_int {i j pos} : PE X (.Constant (.int i) j pos) (tC (.int i)) := fun _ _ _ H _ I h => wpAny_Constant_int ⟨.int i, H, I.tok _, ⟨_, rfl⟩, h⟩
theorem pe_bl {b j pos} : PE X (.Constant (.bool b) j pos) (tC (.bl b)) := fun _ _ _ H _ I h => Constant_bool ⟨.bl b, H, I, rfl, h⟩
/-- a global name of the def -/
def Gl (X : Cx) (x : Str) : Prop := X.env.kindOf x = some .globalImplicit
theorem ld_glob {E : Value → Shared → Prop} {pins : List (Addr × Obj)} {s : Shared} {σ : St} {H : Hp} {x : Str} {u : Value} {pos : Pos} {Q : Value → Shared → Prop} (I : Inv X pins σ H s) (hg : Gl X x) (hm : X.mg x = some u) (h : Q u s)
    (hd : (x == ("__debug__" : Str)) = false := by decide) : wpAny (model X.prog X.w) X.A (eval (.Name x pos) X.env) Q E s :=
  Calls.Name_function_global I.ok.kind hg (Calls.loadGlobal_global (by rw [I.ok.glob]; exact I.mod.glob.keeps I.bk) hm h) hd
theorem ld_blt {E : Value → Shared → Prop} {pins : List (Addr × Obj)} {s : Shared} {σ : St} {H : Hp} {x : Str} {u : Value} {pos : Pos} {Q : Value → Shared → Prop} (I : Inv X pins σ H s) (hg : Gl X x) (hm : X.mg x = none) (hv : bootBuiltins x = some u) (h : Q u s)
    (hn : x ≠ "__name__" := by decide) (hd : (x == ("__debug__" : Str)) = false := by decide) : wpAny (model X.prog X.w) X.A (eval (.Name x pos) X.env) Q E s := by
  obtain ⟨mb, h1, h2⟩ := I.mod.blt
  exact Calls.Name_function_global I.ok.kind hg (Calls.loadGlobal_builtin (by rw [I.ok.glob]; exact I.mod.glob.keeps I.bk) hm (by rw [I.ok.blt]; exact h1.keeps I.bk) ((h2 x hn).trans hv) h) hd
/-- a module's constant, a class, a function, as a value -/
theorem pe_glob {x : Str} {v : V} {u : Value} {pos : Pos} (hg : Gl X x) (hm : X.mg x = some u) (r : RelV v u) (hd : (x == ("__debug__" : Str)) = false := by decide) : PE X (.Name x pos) (tC v) :=
  fun _ _ _ H _ I h => ld_glob I hg hm ⟨v, H, I, r, h⟩ hd
/-- two ints -/
def t2I (ta tb : TE) (k : Int → Int → Hp → Prop) : St → Hp → Prop := fun σ H => ta σ H fun x H1 => tb σ H1 fun y H2 => ∃ i j, x = .int i ∧ y = .int j ∧ k i j H2
variable {a b : Expr} {ta tb : TE} {pos : Pos}
def PC (X : Cx) (op : CmpOp) (a b : Expr) (t : TE) : Prop :=
  ∀ (pins : List (Addr × Obj)) (s : Shared) (σ : St) (H : Hp) (Q : VK), Inv X pins σ H s → t σ H Q →
    wpAny (model X.prog X.w) X.A (eval a X.env) (fun v s₁ => wpAny (model X.prog X.w) X.A (eval b X.env) (fun u s₂ => wpAny (model X.prog X.w) X.A (compareOp op v u) (EP X pins σ Q) X.xe s₂) X.xe s₁) X.xe s
theorem nobehind (b : Expr) {op : CmpOp} (h : op ≠ .In) (h2 : op ≠ .NotIn) : behindInMarks op b = false := by
  have e1 : (op == CmpOp.In) = false := by cases op <;> first | rfl | exact absurd rfl h
  have e2 : (op == CmpOp.NotIn) = false := by cases op <;> first | rfl | exact absurd rfl h2
  cases b <;> simp [behindInMarks, e1, e2]
def tCmp (p : Int → Int → Bool) (ta tb : TE) : TE := fun σ H Q => t2I ta tb (fun i j H2 => Q (.bl (p i j)) H2) σ H
abbrev tLt : TE → TE → TE := tCmp fun i j => decide (i < j)
abbrev tGt : TE → TE → TE := tCmp fun i j => decide (j < i)
abbrev tEqI : TE → TE → TE := tCmp fun i j => decide (i = j)
abbrev tNeI : TE → TE → TE := tCmp fun i j => !decide (i = j)
/-- a comparison of two ints, by its rule -/
theorem pc_int {op : CmpOp} {p : Int → Int → Bool} (ha : PE X a ta) (hb : PE X b tb)
    (rule : ∀ (i j : Int) (t u : Tok) (Q : Value → Shared → Prop) (s : Shared), Q (.bool (p i j)) s → wpAny (model X.prog X.w) X.A (compareOp op (.int i t) (.int j u)) Q X.xe s) : PC X op a b (tCmp p ta tb) := by
  intro pins s σ H Q I h
  refine bin ha hb I h fun v u s2 x y H2 I2 rx ry q => ?_
  obtain ⟨i, j, rfl, rfl, q⟩ := q
  obtain ⟨t, rfl⟩ := rx
  obtain ⟨t', rfl⟩ := ry
  exact rule i j t t' _ s2 ⟨.bl _, H2, I2, rfl, q⟩
theorem pc_lt (ha : PE X a ta) (hb : PE X b tb) : PC X .Lt a b (tLt ta tb) := pc_int ha hb fun _ _ _ _ _ _ h => lt_int h
theorem pc_gt (ha : PE X a ta) (hb : PE X b tb) : PC X .Gt a b (tGt ta tb) := pc_int ha hb fun _ _ _ _ _ _ h => gt_int h
theorem pc_eqI (ha : PE X a ta) (hb : PE X b tb) : PC X .Eq a b (tEqI ta tb) := pc_int ha hb fun _ _ _ _ _ _ h => eq_int (by rw [Bool.beq_eq_decide_eq]; exact h)
theorem pc_neI (ha : PE X a ta) (hb : PE X b tb) : PC X .NotEq a b (tNeI ta tb) := pc_int ha hb fun _ _ _ _ _ _ h => ne_int (by rw [bne, Bool.beq_eq_decide_eq]; exact h)
/-- a comparison as a value, as a test -/
def tB (t : TE) : TT := fun σ H Q => t σ H fun x H1 => ∃ c, x = .bl c ∧ Q c H1
theorem pe_cmp {op : CmpOp} {t : TE} (h : PC X op a b t) (h1 : behindInMarks op b = false := by first | exact nobehind _ (by decide) (by decide) | rfl) : PE X (.Compare a [op] [b] pos) t := fun pins s σ H Q I hw => wpAny_Compare1 (h pins s σ H Q I hw) h1
theorem pt_cmp {op : CmpOp} {t : TE} (h : PC X op a b t) (h1 : behindInMarks op b = false := by first | exact nobehind _ (by decide) (by decide) | rfl) : PT X (.Compare a [op] [b] pos) (tB t) := by
  intro pins s σ H Q I hw
  refine wpAny_isTrue_Compare1 (thn (h pins s σ H _ I hw) fun v s1 h1 => thn h1 fun u s2 h2 => thn h2 fun c s3 ⟨x, H1, I1, r1, q1⟩ => ?_) h1
  obtain ⟨d, rfl, q⟩ := q1
  cases r1
  exact wpAny_truthy_bool ⟨H1, I1, q⟩
/-- an expression whose value is a bool, as a test -/
theorem pt_val {e : Expr} {t : TE} (h : PE X e t) (he : ∀ whole, isTrue e X.env whole = (do let v ← whole; standAt e.pos; holding [v] (truthy v)) := by intro _; rfl) : PT X e (tB t) := by
  intro pins s σ H Q I hw
  refine isTrue_plain (thn (h pins s σ H _ I hw) fun v s1 ⟨x, H1, I1, r1, q1⟩ => ?_) (he _)
  obtain ⟨d, rfl, q⟩ := q1
  cases r1
  exact wpAny_truthy_bool ⟨H1, I1, q⟩

variable {tA tB' : TT} {rest : List Expr}
def tAnd (t u : TT) : TT := fun σ H Q => t σ H fun c H1 => if c = true then u σ H1 Q else Q false H1
def tOr (t u : TT) : TT := fun σ H Q => t σ H fun c H1 => if c = true then Q true H1 else u σ H1 Q
def tNot (t : TT) : TT := fun σ H Q => t σ H fun c H1 => Q (!c) H1
theorem pw_and1 (ha : PT X a tA) : PW X (.BoolOp .And [a] pos) tA := by
  intro wh pins s σ H Q I h
  refine isTrue_and (thn (ha pins s σ H Q I h) fun c s1 e => ?_)
  cases c with
  | true => exact isTrue_and_nil e
  | false => exact e
theorem pw_or1 (ha : PT X a tA) : PW X (.BoolOp .Or [a] pos) tA := by
  intro wh pins s σ H Q I h
  refine isTrue_or (thn (ha pins s σ H Q I h) fun c s1 e => ?_)
  cases c with
  | false => exact isTrue_or_nil e
  | true => exact e
theorem pw_and (ha : PT X a tA) (hb : PW X (.BoolOp .And (b :: rest) pos) tB') : PW X (.BoolOp .And (a :: b :: rest) pos) (tAnd tA tB') := by
  intro wh pins s σ H Q I h
  refine isTrue_and (thn (ha pins s σ H _ I h) fun c s1 ⟨H1, I1, q1⟩ => ?_)
  cases c with
  | true => exact hb wh pins s1 σ H1 Q I1 q1
  | false => exact ⟨H1, I1, q1⟩
theorem pw_or (ha : PT X a tA) (hb : PW X (.BoolOp .Or (b :: rest) pos) tB') : PW X (.BoolOp .Or (a :: b :: rest) pos) (tOr tA tB') := by
  intro wh pins s σ H Q I h
  refine isTrue_or (thn (ha pins s σ H _ I h) fun c s1 ⟨H1, I1, q1⟩ => ?_)
  cases c with
  | true => exact ⟨H1, I1, q1⟩
  | false => exact hb wh pins s1 σ H1 Q I1 q1
theorem pt_not (ha : PT X a tA) : PT X (.UnaryOp .Not a pos) (tNot tA) := by
  intro pins s σ H Q I h
  exact isTrue_not (ha pins s σ H (fun c H1 => Q (!c) H1) I h)
/-- a if t else b -/
def tIf (t : TT) (ta tb : TE) : TE := fun σ H Q => t σ H fun c H1 => if c = true then ta σ H1 Q else tb σ H1 Q
theorem pe_ifExp {c : Expr} (hc : PT X c tA) (ha : PE X a ta) (hb : PE X b tb) : PE X (.IfExp c a b pos) (tIf tA ta tb) := by
  intro pins s σ H Q I h
  refine wpAny_IfExp (thn (hc pins s σ H _ I h) fun d s1 ⟨H1, I1, q1⟩ => ?_)
  cases d with
  | true => exact ha pins s1 σ H1 Q I1 q1
  | false => exact hb pins s1 σ H1 Q I1 q1
end
end L2

namespace L2
open PySem PySem.Spec PyProof.Rows

def SqL (K : PySem.W.Frag) (H : Hp) (a : Addr) (xs : List V) : Prop :=
  Rd H a (.lst xs) ∨
    ∃ (o : Obj) (its : Array Value) (n : Nat), K.lookup a = some o ∧ o.cls = .type "list" ∧ o.dict = none ∧ o.data = .seq its n ∧ its.size ≤ sizeLine ∧ Vals xs its.toList
def SqT (K : PySem.W.Frag) (H : Hp) (a : Addr) (xs : List V) : Prop :=
  Rd H a (.tup xs) ∨
    ∃ (o : Obj) (its : Array Value) (n : Nat), K.lookup a = some o ∧ o.cls = .type "tuple" ∧ o.data = .seq its n ∧ its.size ≤ sizeLine ∧ Vals xs its.toList
def absV : Value → Option V
  | .none => some .non
  | .bool b => some (.bl b)
  | .int i _ => some (.int i)
  | .str x _ => some (.str x)
  | .bytes b _ => some (.byt b)
  | .float b _ => some (.flt b)
  | .ref a => some (.ref a)
  | .type n => some (.ty n)
  | _ => none
theorem RelV.abs {x : V} {u : Value} (r : RelV x u) : absV u = some x := by
  cases x with
  | non => cases r; rfl
  | bl _ => cases r; rfl
  | int _ => obtain ⟨t, rfl⟩ := r; rfl
  | str _ => obtain ⟨t, rfl⟩ := r; rfl
  | byt _ => obtain ⟨t, rfl⟩ := r; rfl
  | flt _ => obtain ⟨t, rfl⟩ := r; rfl
  | ref _ => cases r; rfl
  | ty _ => cases r; rfl
theorem RelV.inj {x y : V} {u : Value} (r : RelV x u) (q : RelV y u) : x = y := Option.some.inj (r.abs.symm.trans q.abs)
theorem Vals.inj : ∀ {xs ys : List V} {us : List Value}, Vals xs us → Vals ys us → xs = ys
  | _, _, _, .nil, .nil => rfl
  | _, _, _, .cons r t, .cons r' t' => by rw [r.inj r', Vals.inj t t']
section
variable {X : Cx} {pins : List (Addr × Obj)} {σ : St} {H : Hp} {s : Shared} {a : Addr} {xs ys : List V}
theorem SqL.of {K : PySem.W.Frag} (h : H a = some (.lst xs)) : SqL K H a xs := .inl (.inl h)
theorem SqT.of {K : PySem.W.Frag} (h : H a = some (.tup xs)) : SqT K H a xs := .inl (.inl h)
theorem Inv.list (I : Inv X pins σ H s) (h : SqL X.K H a xs) : ∃ its : List Value, Vals xs its ∧ PlainL s.heap a its.toArray ∧ xs.length ≤ sizeLine := by
  rcases h with h | ⟨o, its, n, hk, hc, hd, hs, hz, r⟩
  · obtain ⟨z, its, n, r, e⟩ := h.ok I.hok
    exact ⟨its, r, ⟨_, n, e, rfl, rfl, rfl⟩, z⟩
  · refine ⟨its.toList, r, ⟨o, n, I.kIn a o hk, hc, hd, by simpa using hs⟩, ?_⟩
    have e := r.length
    simp only [Array.length_toList] at e
    omega
theorem Inv.tuple (I : Inv X pins σ H s) (h : SqT X.K H a xs) : ∃ its : List Value, Vals xs its ∧ IsTup s.heap a its.toArray ∧ xs.length ≤ sizeLine := by
  rcases h with h | ⟨o, its, n, hk, hc, hs, hz, r⟩
  · obtain ⟨z, its, r, p⟩ := h.ok I.hok
    exact ⟨its, r, p, z⟩
  · refine ⟨its.toList, r, ⟨o, I.kIn a o hk, hc, n, by simpa using hs⟩, ?_⟩
    have e := r.length
    simp only [Array.length_toList] at e
    omega
theorem Inv.list_inj (I : Inv X pins σ H s) (h : SqL X.K H a xs) (h' : SqL X.K H a ys) : xs = ys := by
  obtain ⟨its, r, ⟨o, n, e, _, _, d⟩, _⟩ := I.list h
  obtain ⟨its', r', ⟨o', n', e', _, _, d'⟩, _⟩ := I.list h'
  rw [e] at e'; cases e'
  rw [d] at d'
  injection d' with d1 _
  have : its = its' := by simpa using congrArg Array.toList d1
  subst this
  exact r.inj r'
end

abbrev Cx.wish (X : Cx) (E : Value → Shared → Prop) : Cx := { X with xe := E }
/-- no exception leaves -/
abbrev Cx.nox (X : Cx) : Cx := X.wish fun _ _ => False
theorem Cx.Ok.wish {X : Cx} (ok : X.Ok) (E : Value → Shared → Prop) : (X.wish E).Ok :=
  ⟨ok.mod, ok.kind, ok.glob, ok.blt, ok.above, ok.inj, ok.has, ok.cab, ok.hd, ok.frames, ok.stk, ok.exf, ok.bs, ok.bsz, ok.noex, ok.exfs, ok.funs, ok.frf⟩
theorem Cx.Ok.unwish {X : Cx} {E : Value → Shared → Prop} (ok : (X.wish E).Ok) : X.Ok :=
  ⟨ok.mod, ok.kind, ok.glob, ok.blt, ok.above, ok.inj, ok.has, ok.cab, ok.hd, ok.frames, ok.stk, ok.exf, ok.bs, ok.bsz, ok.noex, ok.exfs, ok.funs, ok.frf⟩
section
variable {X : Cx} {pins : List (Addr × Obj)} {σ : St} {H : Hp} {s : Shared} {E : Value → Shared → Prop}
theorem Inv.wish (I : Inv X pins σ H s) (E : Value → Shared → Prop) : Inv (X.wish E) pins σ H s := ⟨I.ok.wish E, I.os, I.bare, I.base, I.loc, I.cell, I.free, I.freeC, I.pin, I.hok, I.len⟩
theorem Inv.unwish (I : Inv (X.wish E) pins σ H s) : Inv X pins σ H s := ⟨I.ok.unwish, I.os, I.bare, I.base, I.loc, I.cell, I.free, I.freeC, I.pin, I.hok, I.len⟩
theorem SP.unwish {D : Ends} {f : Flow} {s' : Shared} (h : SP (X.wish E) pins D f s') : SP X pins D f s' := by
  cases f with
  | next => obtain ⟨σ', H', I, q⟩ := h; exact ⟨σ', H', I.unwish, q⟩
  | brk => obtain ⟨σ', H', I, q⟩ := h; exact ⟨σ', H', I.unwish, q⟩
  | cont => obtain ⟨σ', H', I, q⟩ := h; exact ⟨σ', H', I.unwish, q⟩
  | ret u => obtain ⟨v, σ', H', I, r, q⟩ := h; exact ⟨v, σ', H', I.unwish, r, q⟩
theorem PSs.nox {st : List Stmt} {t : TS} (h : PSs X.nox st t) : PSs X st t := fun pins s σ H D I hw =>
  wpAny_mono (h pins s σ H D (I.wish _) hw) (fun _ _ q => q.unwish) fun _ _ z => False.elim z
end

section
variable {X : Cx} {st : Stmt} {rest : List Stmt} {t u : TS} {e : Expr} {te : TE} {pos : Pos}
def tNext : TS := fun D σ H => D.nx σ H
def tSeq (t u : TS) : TS := fun D σ H => t { D with nx := u D } σ H
theorem pss_nil : PSs X [] tNext := fun _ _ σ H _ I h => wpAny_execs_nil ⟨σ, H, I, h⟩
theorem pss_cons (h1 : PS X st t) (h2 : PSs X rest u) : PSs X (st :: rest) (tSeq t u) := by
  intro pins s σ H D I h
  refine wpAny_execs_cons (thn (h1 pins s σ H { D with nx := u D } I h) fun f s1 q => ?_)
  cases f with
  | next =>
    obtain ⟨σ', H', I', q⟩ := q
    exact h2 pins s1 σ' H' D I' q
  | ret v => exact q
  | brk => exact q
  | cont => exact q
theorem pss_one (h1 : PS X st t) : PSs X [st] t := by
  intro pins s σ H D I h
  refine wpAny_execs_cons (thn (h1 pins s σ H D I h) fun f s1 q => ?_)
  cases f with
  | next => exact wpAny_execs_nil q
  | ret v => exact q
  | brk => exact q
  | cont => exact q
/-- in a def's body nothing is shown -/
theorem Inv.quiet {pins : List (Addr × Obj)} {σ : St} {H : Hp} {s : Shared} (I : Inv X pins σ H s) : interactive X.env = false := by simp [interactive, I.ok.kind]
/-- an expression whose value is dropped -/
def tDrop (te : TE) : TS := fun D σ H => te σ H fun _ H1 => D.nx σ H1
theorem ps_expr (he : PE X e te) (hs : swapsWith e none pos.line X.env = pure false := by rfl) : PS X (.Expr e pos) (tDrop te) := by
  intro pins s σ H D I h
  exact wpAny_Expr_any (thn (he pins s σ H _ I h) fun v s1 ⟨x, H1, I1, r1, q1⟩ => ⟨σ, H1, I1, q1⟩) I.quiet hs
def tRet (te : TE) : TS := fun D σ H => te σ H D.rt
theorem ps_ret (he : PE X e te) : PS X (.Return (some e) pos) (tRet te) := by
  intro pins s σ H D I h
  exact wpAny_Return_some (thn (he pins s σ H _ I h) fun v s1 ⟨x, H1, I1, r1, q1⟩ => ⟨x, σ, H1, I1, r1, q1⟩)
def tIfS (c : TT) (t u : TS) : TS := fun D σ H => c σ H fun b H1 => if b = true then t D σ H1 else u D σ H1
theorem ps_if {c : Expr} {a b : List Stmt} {tc : TT} (hc : PT X c tc) (ha : PSs X a t) (hb : PSs X b u) : PS X (.If c a b pos) (tIfS tc t u) := by
  intro pins s σ H D I h
  refine wpAny_If (thn (hc pins s σ H _ I h) fun d s1 ⟨H1, I1, q1⟩ => ?_)
  cases d with
  | true => exact ha pins s1 σ H1 D I1 q1
  | false => exact hb pins s1 σ H1 D I1 q1
end

abbrev TG := V → St → Hp → (St → Hp → Prop) → Prop
abbrev TGs := List V → St → Hp → (St → Hp → Prop) → Prop
def PG (X : Cx) (target : Expr) (t : TG) : Prop :=
  ∀ (pins : List (Addr × Obj)) (s : Shared) (σ : St) (H : Hp) (v : V) (u : Value) (Q : St → Hp → Prop), Inv X pins σ H s → RelV v u → t v σ H Q →
    wpAny (model X.prog X.w) X.A (assign target X.env u) (fun _ s' => ∃ σ' H', Inv X pins σ' H' s' ∧ Q σ' H') X.xe s
/-- several targets, one after another -/
def PGs (X : Cx) (ts : List Expr) (t : TGs) : Prop :=
  ∀ (pins : List (Addr × Obj)) (s : Shared) (σ : St) (H : Hp) (vs : List V) (us : List Value) (Q : St → Hp → Prop), Inv X pins σ H s → Vals vs us → t vs σ H Q →
    wpAny (model X.prog X.w) X.A (assignInOrder ((assignEach ts X.env).map (·.2)) us) (fun _ s' => ∃ σ' H', Inv X pins σ' H' s' ∧ Q σ' H') X.xe s
/-- a op= b, by values -/
abbrev TIp := V → V → Hp → VK → Prop
def PIp (X : Cx) (op : Operator) (t : TIp) : Prop :=
  ∀ (pins : List (Addr × Obj)) (s : Shared) (σ : St) (H : Hp) (x y : V) (v u : Value) (Q : VK), Inv X pins σ H s → RelV x v → RelV y u → t x y H Q →
    wpAny (model X.prog X.w) X.A (inplaceOp op v u) (EP X pins σ Q) X.xe s
section
variable {X : Cx} {pos : Pos}
def gName (i : Nat) : TG := fun v σ H Q => Q (σ.set i (some v)) H
theorem pg_name {i : Nat} {x : Str} (hN : X.N.Nodup) (hi : X.N[i]? = some x) (hx : Loc X.env.scope x) (hf : X.fn x = true ∨ X.env.scope.names.lookup x = some .local := by first | exact .inl rfl | exact .inr rfl | assumption) : PG X (.Name x pos) (gName i) := by
  intro pins s σ H v u Q I r h
  exact wpAny_assign_Name (store_ok I hN hi hx r (fun s' I' => ⟨_, H, I', h⟩) hf)
def gNil : TGs := fun vs σ H Q => vs = [] ∧ Q σ H
def gCons (t : TG) (u : TGs) : TGs := fun vs σ H Q => ∃ v r, vs = v :: r ∧ t v σ H fun σ' H' => u r σ' H' Q
theorem pgs_nil : PGs X [] gNil := by
  intro pins s σ H vs us Q I r h
  obtain ⟨e, h⟩ := h
  subst e
  cases r
  exact assignInOrder_nil ⟨σ, H, I, h⟩
theorem pgs_cons {e : Expr} {es : List Expr} {t : TG} {u : TGs} (h1 : PG X e t) (h2 : PGs X es u)
    (hs : (assignEach (e :: es) X.env).map (·.2) = assign e X.env :: (assignEach es X.env).map (·.2) := by rfl) : PGs X (e :: es) (gCons t u) := by
  intro pins s σ H vs us Q I r h
  obtain ⟨v, vr, e1, h⟩ := h
  subst e1
  cases r with
  | cons r rr =>
    rw [hs]
    refine assignInOrder_cons (thn (h1 pins s σ H _ _ _ I r h) fun _ s1 ⟨σ1, H1, I1, q1⟩ => ?_)
    exact h2 pins s1 σ1 H1 _ _ Q I1 rr q1
/-- (a, b, ..) = a tuple of that length -/
def gTup (K : PySem.W.Frag) (n : Nat) (t : TGs) : TG := fun v σ H Q => ∃ a xs, v = .ref a ∧ SqT K H a xs ∧ xs.length = n ∧ t xs σ H Q
theorem pg_tup {es : List Expr} {k : Nat} {t : TGs} {n : Nat} (hc : X.calm = true) (h : PGs X es t)
    (hn : (assignEach es X.env).length = n := by rfl) (hst : (assignEach es X.env).findIdx? (·.1) = none := by rfl) : PG X (.Tuple es k pos) (gTup X.K n t) := by
  intro pins s σ H v u Q I r hw
  obtain ⟨a, xs, e1, hq, hl, hw⟩ := hw
  subst e1
  cases r
  obtain ⟨its, rv, ht, hz⟩ := I.tuple hq
  refine assign_Tuple_tuple (I.ok.hd hc) ht (by simp [hn, ← hl, rv.length]) hst fun h' hx => ?_
  have I1 : Inv X pins σ H { s with heap := h' } := I.kept (t' := s.toks) fun b o e => hx b o (Nat.ne_of_lt (Heap.lt_size e)) e
  exact h pins _ σ H xs _ Q I1 (by simpa using rv) hw
/-- target = value -/
def tAsg (te : TE) (g : TG) : TS := fun D σ H => te σ H fun x H1 => g x σ H1 D.nx
/-- name = value -/
theorem ps_set {i : Nat} {x : Str} {e : Expr} {te : TE} {pos' : Pos} (hN : X.N.Nodup) (hi : X.N[i]? = some x) (hx : Loc X.env.scope x) (he : PE X e te) (hs : swapsWith e (some (.Name x pos')) pos.line X.env = pure false := by rfl) (hf : X.fn x = true ∨ X.env.scope.names.lookup x = some .local := by first | exact .inl rfl | exact .inr rfl | assumption) :
    PS X (.Assign [.Name x pos'] e pos) (tAsg te (gName i)) := by
  intro pins s σ H D I h
  refine wpAny_Assign_Name (thn (he pins s σ H _ I h) fun v s1 ⟨y, H1, I1, r1, q1⟩ => ?_) hs
  exact store_ok I1 hN hi hx r1 (fun s2 I2 => ⟨_, H1, I2, q1⟩) hf
/-- name op= e -/
def tAug (i : Nat) (te : TE) (ti : TIp) : TS := fun D σ H => ∃ x, σ[i]? = some (some x) ∧ te σ H fun y H1 => ti x y H1 fun z H2 => D.nx (σ.set i (some z)) H2
theorem ps_aug {i : Nat} {x : Str} {e : Expr} {te : TE} {op : Operator} {ti : TIp} {pos' : Pos} (hN : X.N.Nodup) (hi : X.N[i]? = some x) (hx : Loc X.env.scope x) (he : PE X e te) (ho : PIp X op ti) (hf : X.fn x = true ∨ X.env.scope.names.lookup x = some .local := by first | exact .inl rfl | exact .inr rfl | assumption) :
    PS X (.AugAssign (.Name x pos') op e pos) (tAug i te ti) := by
  intro pins s σ H D I h
  obtain ⟨v, e1, h⟩ := h
  obtain ⟨m, hn, hl⟩ := I.loc
  have vis : Vis X.env.scope x := by rcases hx with k | k; exact .inl k; exact .inr (.inl k)
  obtain ⟨u, r, l⟩ := hl i x v hi e1 vis
  refine wpAny_AugAssign_Name ?_
  have go : wpAny (model X.prog X.w) X.A (eval e X.env) (fun w s₂ => wpAny (model X.prog X.w) X.A (inplaceOp op u w) (fun r s₃ => wpAny (model X.prog X.w) X.A (storeName X.env x r) (fun _ => SP X pins D .next) X.xe s₃) X.xe s₂) X.xe s := by
    refine thn (he pins s σ H _ I h) fun w s1 ⟨y, H1, I1, r1, q1⟩ => ?_
    refine thn (ho pins s1 σ H1 v y u w _ I1 r r1 q1) fun z s2 ⟨zv, H2, I2, r2, q2⟩ => ?_
    exact store_ok I2 hN hi hx r2 (fun s3 I3 => ⟨_, H2, I3, q2⟩) hf
  rcases l with ⟨hk, hm⟩ | ⟨hk, c, hc, hcell⟩
  · exact wpAny_loadName_local I.ok.kind hk hn hm go
  · rcases hk with hk | hk
    · exact wpAny_loadName_cell I.ok.kind hk hc hcell go
    · rcases hx with k | k
      · have : X.env.scope.names.lookup x = some .free := hk
        rw [k] at this; cases this
      · have : X.env.scope.names.lookup x = some .free := hk
        rw [k] at this; cases this
/-- ints -/
def ipI (f : Int → Int → Int) : TIp := fun x y H Q => ∃ i j, x = .int i ∧ y = .int j ∧ Q (.int (f i j)) H
theorem ip_add : PIp X .Add (ipI fun i j => i + j) := by
  intro pins s σ H x y v u Q I r1 r2 h
  obtain ⟨i, j, e1, e2, q⟩ := h
  subst e1; subst e2
  obtain ⟨t, rfl⟩ := r1
  obtain ⟨t', rfl⟩ := r2
  exact iadd_int ⟨.int _, H, I.tok _, ⟨_, rfl⟩, q⟩
theorem ip_sub : PIp X .Sub (ipI fun i j => i - j) := by
  intro pins s σ H x y v u Q I r1 r2 h
  obtain ⟨i, j, e1, e2, q⟩ := h
  subst e1; subst e2
  obtain ⟨t, rfl⟩ := r1
  obtain ⟨t', rfl⟩ := r2
  exact isub_int ⟨.int _, H, I.tok _, ⟨_, rfl⟩, q⟩
end

section
variable {X : Cx} {pos : Pos}
/-- the invariant W with its measure -/
def tWhile (c : TT) (tb : TS) : TS := fun D σ H => ∃ W : Nat → St → Hp → Prop, (∃ m, W m σ H) ∧ ∀ m σ H, W m σ H →
  c σ H fun b H1 => if b = true then ∃ N : St → Hp → Prop, (∀ σ' H', N σ' H' → ∃ m', m' < m ∧ W m' σ' H') ∧ tb { D with nx := N, ct := N, bk := D.nx } σ H1 else D.nx σ H1
theorem ps_while {c : Expr} {body : List Stmt} {tc : TT} {tb : TS} (hp : PassesOwn (model X.prog X.w) X.A X.env X.xe) (hc : PT X c tc) (hb : PSs X body tb) : PS X (.While c body [] pos) (tWhile tc tb) := by
  intro pins s σ H D I h
  obtain ⟨W, ⟨m0, w0⟩, turn⟩ := h
  refine wpAny_While (codeAny_whileLoop (fun n s' => ∃ σ' H', Inv X pins σ' H' s' ∧ W n σ' H') ?_ m0 ⟨σ, H, I, w0⟩)
  rintro n s1 ⟨σ1, H1, I1, w1⟩
  refine wpAny_passesOwn hp (thn (hc pins s1 σ1 H1 _ I1 (turn n σ1 H1 w1)) fun b s2 ⟨H2, I2, q2⟩ => ?_)
  cases b with
  | true =>
    obtain ⟨N, hN, q2⟩ := q2
    rw [if_pos rfl]
    refine wpAny_passesOwn hp (thn (hb pins s2 σ1 H2 _ I2 q2) fun f s3 q3 => ?_)
    cases f with
    | next =>
      obtain ⟨σ3, H3, I3, n3⟩ := q3
      obtain ⟨m', hm, w3⟩ := hN σ3 H3 n3
      exact ⟨m', hm, σ3, H3, I3, w3⟩
    | cont =>
      obtain ⟨σ3, H3, I3, n3⟩ := q3
      obtain ⟨m', hm, w3⟩ := hN σ3 H3 n3
      exact ⟨m', hm, σ3, H3, I3, w3⟩
    | brk => exact q3
    | ret v => exact q3
  | false =>
    rw [if_neg Bool.false_ne_true]
    exact wpAny_execs_nil ⟨σ1, H2, I2, q2⟩
end

/-- at turn i: it yields x (the heap may grow), or it stops -/
structure It where
  go : Nat → Hp → Prop
  yld : Nat → Hp → V → Hp → Prop
  stop : Nat → Hp → Prop
/-- the iterator's own objects may turn: they are not the frame's, not pinned, younger than the entry (or a comprehension's own) -/
def FpOk (X : Cx) (pins : List (Addr × Obj)) (H : Hp) (b : Addr) : Prop :=
  H b = none ∧ b ≠ X.env.locals ∧ b ∉ X.fs ∧ (b ∈ X.ex ∨ X.s_0.heap.objs.size ≤ b) ∧ (∀ x c, X.env.cells.lookup x = some c → c ≠ b) ∧ ∀ p ∈ X.pn ++ pins, p.1 ≠ b
theorem Inv.fpOk {X : Cx} {pins : List (Addr × Obj)} {σ : St} {H H' : Hp} {s : Shared} {b : Addr} (I : Inv X pins σ H s) (hb : s.heap.objs.size ≤ b) (hn : H' b = none) : FpOk X pins H' b := by
  refine ⟨hn, Nat.ne_of_gt (Nat.lt_of_lt_of_le I.lt hb), I.nofs hb, .inr (Nat.le_trans I.sz hb), fun x c e z => ?_, fun p hp z => ?_⟩
  · obtain ⟨v, q⟩ := I.cell x c e
    exact absurd (Nat.lt_of_lt_of_le q.lt (by rw [z]; exact hb)) (Nat.lt_irrefl _)
  · exact absurd (Nat.lt_of_lt_of_le (Heap.lt_size (I.pin p hp).1) (by rw [z]; exact hb)) (Nat.lt_irrefl _)
structure Turn (P : Program) (w : World) (K : PySem.W.Frag) (tg : Expr) (J : It) (fp : List Addr) (it : Addr) (tn : Nat → Heap → Prop) : Prop where
  mem : it ∈ fp
  obj : ∀ i h, tn i h → ∀ b ∈ fp, ∃ o, h.get? b = some o ∧ ∀ v, o.data ≠ .cell v
  keep : ∀ i h h', tn i h → (∀ b ∈ fp, ∀ o, h.get? b = some o → h'.get? b = some o) → tn i h'
  item : ∀ (X : Cx), X.prog = P → X.w = w → X.K = K → X.calm = true → ∀ (i : Nat) (pins : List (Addr × Obj)) (s : Shared) (σ : St) (H : Hp) (E : Value → Shared → Prop), Inv X pins σ H s → (∀ b ∈ fp, FpOk X pins H b) → tn i s.heap → J.go i H →
    wpAny (model P w) X.A (pyNext (.ref it)) (fun r s1 => ∃ u, r = some u ∧
      wpAny (model P w) X.A (letOwnedTupleGo tg (.ref it) u) (fun _ s2 => ∃ x H', Inv X pins σ H' s2 ∧ RelV x u ∧ J.yld i H x H' ∧ tn (i + 1) s2.heap ∧ ∀ b ∈ fp, H' b = none) E s1) E s
  done : ∀ (X : Cx), X.prog = P → X.w = w → X.K = K → X.calm = true → ∀ (i : Nat) (pins : List (Addr × Obj)) (s : Shared) (σ : St) (H : Hp) (E : Value → Shared → Prop), Inv X pins σ H s → (∀ b ∈ fp, FpOk X pins H b) → tn i s.heap → J.stop i H →
    wpAny (model P w) X.A (pyNext (.ref it)) (fun r s1 => r = none ∧ Inv X pins σ H s1) E s
  self : ∀ (A : Around) (i : Nat) (s : Shared) (Q : Value → Shared → Prop) (E : Value → Shared → Prop), tn i s.heap → Q (.ref it) s → wpAny (model P w) A (pyIter (.ref it)) Q E s
abbrev TI := St → Hp → (It → Hp → Prop) → Prop
/-- an iterator has come -/
def PIE (X : Cx) (pins : List (Addr × Obj)) (σ : St) (tg : Expr) (R : It → Hp → Prop) (itv : Value) (s2 : Shared) : Prop :=
  ∃ (it : Addr) (fp : List Addr) (tn : Nat → Heap → Prop) (J : It) (H' : Hp), itv = .ref it ∧ Inv X pins σ H' s2 ∧ Turn X.prog X.w X.K tg J fp it tn ∧ tn 0 s2.heap ∧ (∀ b ∈ fp, FpOk X pins H' b) ∧ R J H'
def PI (X : Cx) (tg iter : Expr) (wi : TI) : Prop :=
  ∀ (pins : List (Addr × Obj)) (s : Shared) (σ : St) (H : Hp) (R : It → Hp → Prop), Inv X pins σ H s → wi σ H R →
    wpAny (model X.prog X.w) X.A (eval iter X.env) (fun v s1 => wpAny (model X.prog X.w) X.A (pyIter v) (PIE X pins σ tg R) X.xe s1) X.xe s

/-- the step ahead of the store is nothing for an iterator that keeps no tuple -/
theorem go_of {M : Model} {A : Around} {E : Value → Shared → Prop} {s : Shared} {tg : Expr} {it : Addr} {u : Value} {o : Obj} {n : String} {vs : Array Value} {Q : Unit → Shared → Prop} (ho : s.heap.get? it = some o) (hc : o.cls = .type n) (hd : o.data = .fields vs)
    (hn : ["enumerate", "zip", "dict_itemiterator", "dict_reverseitemiterator", "odict_iterator", "itertools.zip_longest", "itertools.pairwise"].contains n = false) (hQ : Q () s) : wpAny M A (letOwnedTupleGo tg (.ref it) u) Q E s := by
  unfold letOwnedTupleGo
  cases tg <;> first
    | exact wpAny_pure hQ
    | (cases u <;> first
        | exact wpAny_pure hQ
        | (refine wpAny_bind (wpAny_load ho ?_)
           rw [hc, hd]
           show wpAny M A (if (["enumerate", "zip", "dict_itemiterator", "dict_reverseitemiterator", "odict_iterator", "itertools.zip_longest", "itertools.pairwise"].contains n && vs[0]? == some (rawInt _)) = true then _ else _) Q E s
           rw [if_neg (by intro h; rw [hn, Bool.false_and] at h; cases h)]
           exact wpAny_pure hQ))

/-- the list at a, as it stands at each turn (a loop may append to it) -/
def Itl (K : PySem.W.Frag) (a : Addr) : It :=
  ⟨fun i H => ∃ xs x, SqL K H a xs ∧ xs[i]? = some x, fun i H x H' => H' = H ∧ ∀ xs, SqL K H a xs → xs[i]? = some x, fun i H => ∃ xs, SqL K H a xs ∧ xs.length ≤ i⟩
/-- lo, lo + 1, .. (n of them) -/
def Itr (lo : Int) (n : Nat) : It := ⟨fun i _ => i < n, fun i H x H' => H' = H ∧ x = .int (lo + i), fun i _ => n ≤ i⟩
theorem turn_list {P : Program} {w : World} {K : PySem.W.Frag} {tg : Expr} (a it : Addr) : Turn P w K tg (Itl K a) [it] it (fun i h => h.IsListIter it a i) where
  mem := by simp
  obj := fun i h st b hb => by
    have e : b = it := by simpa using hb
    subst e
    obtain ⟨o, e, c, d⟩ := st
    exact ⟨o, e, fun v z => by rw [d] at z; cases z⟩
  keep := fun i h h' st k => st.at fun o e => k it (by simp) o e
  item := by
    intro X hP hw hK hc i pins s σ H E I hf st hg
    subst hP hw hK
    obtain ⟨xs, x, hq, hx⟩ := hg
    obtain ⟨its, rv, p, hz⟩ := I.list hq
    obtain ⟨u, hu, ru⟩ := rv.get hx
    obtain ⟨f0, f1, f2, f3, f4, f5⟩ := hf it (by simp)
    refine wpAny_pyNext_list_item st p.isList (x := u) (by simpa using hu) fun h' st' sb => ?_
    have I1 : Inv X pins σ H { s with heap := h' } := I.turned (t' := s.toks) (fun b o hb e => (sb.2 b hb).trans e) f0 f1 f3 f4 f5
    obtain ⟨o, e, c, d⟩ := id st'
    exact ⟨u, rfl, go_of (s := { s with heap := h' }) e c d (by decide) ⟨x, H, I1, ru, ⟨rfl, fun ys hy => by rw [I.list_inj hy hq]; exact hx⟩, st', fun b hb => (hf b hb).1⟩⟩
  done := by
    intro X hP hw hK hc i pins s σ H E I hf st hg
    subst hP hw hK
    obtain ⟨xs, hq, hx⟩ := hg
    obtain ⟨its, rv, p, hz⟩ := I.list hq
    obtain ⟨f0, f1, f2, f3, f4, f5⟩ := hf it (by simp)
    have hl := rv.length
    exact wpAny_pyNext_list_end (I.ok.hd hc) st p.isList (by simp; omega) fun h' eb => ⟨rfl, I.turned (t' := s.toks) (fun b o hb e => eb b o hb e) f0 f1 f3 f4 f5⟩
  self := fun _ _ _ _ _ st h => wpAny_pyIter_listiter st h
theorem turn_range {P : Program} {w : World} {K : PySem.W.Frag} {tg : Expr} (it : Addr) (lo : Int) (n : Nat) : Turn P w K tg (Itr lo n) [it] it (fun i h => IsRangeIter h it (lo + (i : Nat) * 1) ((n : Int) - (i : Nat)) 1) where
  mem := by simp
  obj := fun i h st b hb => by
    have e : b = it := by simpa using hb
    subst e
    exact ⟨_, st, fun v z => by
      have z' : Data.fields _ = Data.cell v := z
      cases z'⟩
  keep := fun i h h' st k => k it (by simp) _ st
  item := by
    intro X hP hw hK hc i pins s σ H E I hf st hg
    subst hP hw hK
    obtain ⟨f0, f1, f2, f3, f4, f5⟩ := hf it (by simp)
    have W := Walks.range (prog := X.prog) (w := X.w) (I.ok.hd hc) it lo 1 n
    refine W.item i s _ _ hg st fun v h' tk hv st' kk => ?_
    obtain ⟨t, rfl⟩ := hv
    have I1 : Inv X pins σ H { s with heap := h', toks := tk } := I.turned (fun b o hb e => kk b o (by simpa using hb) e) f0 f1 f3 f4 f5
    refine ⟨_, rfl, go_of (s := { s with heap := h', toks := tk }) (n := "range_iterator") st' rfl rfl (by decide) ⟨.int (lo + i), H, I1, ⟨t, ?_⟩, ⟨rfl, rfl⟩, st', fun b hb => (hf b hb).1⟩⟩
    rw [Int.mul_one]
  done := by
    intro X hP hw hK hc i pins s σ H E I hf st hg
    subst hP hw hK
    obtain ⟨f0, f1, f2, f3, f4, f5⟩ := hf it (by simp)
    exact wpAny_pyNext_range_end (I.ok.hd hc) st (by have : n ≤ i := hg; omega) fun h' eb => ⟨rfl, I.turned (t' := s.toks) (fun b o hb e => eb b o hb e) f0 f1 f3 f4 f5⟩
  self := fun _ _ _ _ _ st h => wpAny_pyIter_rangeiter st h
end L2

namespace L2
open PySem PySem.Spec PyProof.Rows
section
variable {X : Cx} {tg : Expr}
def iList (K : PySem.W.Frag) (tl : TE) : TI := fun σ H R => tl σ H fun x H1 => ∃ a, x = .ref a ∧ (∃ xs, SqL K H1 a xs) ∧ R (Itl K a) H1
theorem pi_list {l : Expr} {tl : TE} (hl : PE X l tl) : PI X tg l (iList X.K tl) := by
  intro pins s σ H R I h
  refine thn (hl pins s σ H _ I h) fun v s1 ⟨x, H1, I1, r1, q1⟩ => ?_
  obtain ⟨a, e, ⟨xs, hq⟩, q⟩ := q1
  subst e
  cases r1
  obtain ⟨its, rv, p, hz⟩ := I1.list hq
  refine wpAny_pyIter_list p.isList ?_
  refine ⟨s1.heap.objs.size, [s1.heap.objs.size], _, _, H1, rfl, I1.kept (t' := s1.toks) fun b o e => Heap.get?_push_of_some _ e, turn_list a _, ⟨_, Heap.get?_push_size _ rfl, rfl, rfl⟩, fun b hb => ?_, q⟩
  have e : b = s1.heap.objs.size := by simpa using hb
  subst e
  exact I1.fpOk (Nat.le_refl _) (I1.hok.fresh (Nat.le_refl _))
/-- a range object just made, walked -/
theorem range_it {pins : List (Addr × Obj)} {σ : St} {H : Hp} {s : Shared} {R : It → Hp → Prop} {E : Value → Shared → Prop} {lo hi : Int} {t u v : Tok} {tk : Nat} (I : Inv X pins σ H s) (h1 : -(2 ^ 62) ≤ lo) (h2 : lo < 2 ^ 62) (h3 : -(2 ^ 62) ≤ hi) (h4 : hi < 2 ^ 62)
    (q : R (Itr lo (hi - lo).toNat) H) : wpAny (model X.prog X.w) X.A (pyIter (.ref s.heap.objs.size)) (PIE X pins σ tg R) E { s with heap := s.heap.push { cls := .type "range", data := .fields #[.int lo t, .int hi u, .int 1 v] }, toks := tk } := by
  refine wpAny_pyIter_range (IsRange.new ..) (small_one h1 h2 h3 h4) ?_
  have I1 : Inv X pins σ H { s with heap := s.heap.push { cls := .type "range", data := .fields #[.int lo t, .int hi u, .int 1 v] }, toks := tk } := I.kept fun b o e => Heap.get?_push_of_some _ e
  refine ⟨(s.heap.push { cls := .type "range", data := .fields #[.int lo t, .int hi u, .int 1 v] }).objs.size, [(s.heap.push { cls := .type "range", data := .fields #[.int lo t, .int hi u, .int 1 v] }).objs.size], _, _, H, rfl,
    I1.kept (t' := tk) fun b o e => Heap.get?_push_of_some _ e, turn_range _ lo (hi - lo).toNat, ?_, fun b hb => ?_, q⟩
  · have e1 : lo + ((0 : Nat) : Int) * 1 = lo := by simp
    have e2 : (((hi - lo).toNat : Nat) : Int) - ((0 : Nat) : Int) = Builtin.Range.rangeSize lo hi 1 := by rw [rangeSize_one]; split <;> omega
    show IsRangeIter _ _ (lo + ((0 : Nat) : Int) * 1) ((((hi - lo).toNat : Nat) : Int) - ((0 : Nat) : Int)) 1
    rw [e1, e2]
    exact Heap.get?_push_size _ rfl
  · have e : b = (s.heap.push { cls := .type "range", data := .fields #[.int lo t, .int hi u, .int 1 v] }).objs.size := by simpa using hb
    subst e
    exact I1.fpOk (Nat.le_refl _) (I1.hok.fresh (Nat.le_refl _))
def iRng1 (ta : TA) : TI := fun σ H R => ta σ H fun vs H1 => ∃ j : Int, vs = [.int j] ∧ -(2 ^ 62) ≤ j ∧ j < 2 ^ 62 ∧ R (Itr 0 j.toNat) H1
def iRng2 (ta : TA) : TI := fun σ H R => ta σ H fun vs H1 => ∃ i j : Int, vs = [.int i, .int j] ∧ (-(2 ^ 62) ≤ i ∧ i < 2 ^ 62 ∧ -(2 ^ 62) ≤ j ∧ j < 2 ^ 62) ∧ R (Itr i (j - i).toNat) H1
theorem pi_range1 {a : Expr} {ta : TA} {p pos : Pos} (hg : Gl X "range") (hm : X.mg "range" = none) (ha : PA X [a] ta) (hs : starEach [a] X.env = [(false, eval a X.env)] := by rfl) : PI X tg (.Call (.Name "range" p) [a] [] pos) (iRng1 ta) := by
  intro pins s σ H R I h
  refine Call_ (ld_blt I hg hm boot_range (PyProof.Rows.callWith_type1 (thn (ha pos pins s σ H _ I h) fun us s1 ⟨vs, H1, I1, r1, q1⟩ => ?_) hs rfl))
  obtain ⟨j, e, q1, q2, q⟩ := q1
  subst e
  cases r1 with
  | cons r rr =>
    cases rr
    obtain ⟨t, rfl⟩ := r
    exact call_range_1 (range_it I1 (by omega) (by omega) q1 q2 (by simpa using q))
theorem pi_range2 {a b : Expr} {ta : TA} {p pos : Pos} (hg : Gl X "range") (hm : X.mg "range" = none) (ha : PA X [a, b] ta) (hs : starEach [a, b] X.env = [(false, eval a X.env), (false, eval b X.env)] := by rfl) (hs2 : starEach [b] X.env = [(false, eval b X.env)] := by rfl) :
    PI X tg (.Call (.Name "range" p) [a, b] [] pos) (iRng2 ta) := by
  intro pins s σ H R I h
  refine Call_ (ld_blt I hg hm boot_range (PyProof.Rows.callWith_type1 (thn (ha pos pins s σ H _ I h) fun us s1 ⟨vs, H1, I1, r1, q1⟩ => ?_) (by rw [hs, hs2]) (by rw [hs2]; rfl)))
  obtain ⟨i, j, e, ⟨q1, q2, q3, q4⟩, q⟩ := q1
  subst e
  cases r1 with
  | cons r rr =>
    cases rr with
    | cons r' rr =>
      cases rr
      obtain ⟨t, rfl⟩ := r
      obtain ⟨t', rfl⟩ := r'
      exact call_range_2 (range_it I1 q1 q2 q3 q4 q)

/-- W: the invariant by the turn and a measure; N: what the body is to reach -/
def tFor (wi : TI) (g : TG) (tb : TS) : TS := fun D σ H => wi σ H fun J H1 => ∃ W : Nat → Nat → St → Hp → Prop, (∃ m, W 0 m σ H1) ∧ ∀ i m σ H, W i m σ H →
  (J.stop i H ∧ D.nx σ H) ∨ (J.go i H ∧ ∃ N : St → Hp → Prop, (∀ σ' H', N σ' H' → ∃ m', m' < m ∧ W (i + 1) m' σ' H') ∧ ∀ x H', J.yld i H x H' → g x σ H' fun σ2 H2 => tb { D with nx := N, ct := N, bk := D.nx } σ2 H2)
/-- the records at fp as they stand -/
def pinsAt (fp : List Addr) (h : Heap) : List (Addr × Obj) := fp.filterMap fun b => (h.get? b).map fun o => (b, o)
theorem mem_pinsAt {fp : List Addr} {h : Heap} {b : Addr} {o : Obj} (hb : b ∈ fp) (e : h.get? b = some o) : (b, o) ∈ pinsAt fp h := List.mem_filterMap.mpr ⟨b, hb, by rw [e]; rfl⟩
theorem of_pinsAt {fp : List Addr} {h : Heap} {p : Addr × Obj} (hp : p ∈ pinsAt fp h) : p.1 ∈ fp ∧ h.get? p.1 = some p.2 := by
  obtain ⟨b, hb, e⟩ := List.mem_filterMap.mp hp
  cases q : h.get? b with
  | none => rw [q] at e; cases e
  | some o =>
    rw [q] at e
    have e' : (b, o) = p := Option.some.inj e
    subst e'
    exact ⟨hb, q⟩
theorem Inv.pinned {pins : List (Addr × Obj)} {σ : St} {H : Hp} {s : Shared} {fp : List Addr} (I : Inv X pins σ H s) (hf : ∀ b ∈ fp, FpOk X pins H b) (ho : ∀ b ∈ fp, ∃ o, s.heap.get? b = some o ∧ ∀ v, o.data ≠ .cell v) : Inv X (pins ++ pinsAt fp s.heap) σ H s :=
  I.pins_of fun p hp => (List.mem_append.mp hp).elim (fun z => I.pin p (List.mem_append_right _ z)) fun z => by
    obtain ⟨hb, e⟩ := of_pinsAt z
    obtain ⟨f0, f1, f2, _⟩ := hf p.1 hb
    obtain ⟨o, e', d⟩ := ho p.1 hb
    rw [e] at e'; cases e'
    exact ⟨e, f0, f1, f2, d⟩
theorem Inv.unpinned {pins pl : List (Addr × Obj)} {σ : St} {H : Hp} {s : Shared} (I : Inv X (pins ++ pl) σ H s) : Inv X pins σ H s := I.pins_of fun p hp => I.pin p (List.mem_append_right _ (List.mem_append_left _ hp))
theorem ps_for {iter : Expr} {body : List Stmt} {wi : TI} {g : TG} {tb : TS} {pos : Pos} (hp : PassesOwn (model X.prog X.w) X.A X.env X.xe) (hc : X.calm = true) (hi : PI X tg iter wi) (hg : PG X tg g) (hb : PSs X body tb)
    (hs : ∀ x, foldedSetIterable iter X.env x = pure x := by intro _; rfl) : PS X (.For tg iter body [] pos) (tFor wi g tb) := by
  intro pins s σ H D I h
  refine wpAny_For (thn (hi pins s σ H _ I h) fun v s1 h1 => thn h1 fun itv s2 h2 => ?_) hs
  obtain ⟨it, fp, tn, J, H2, e, I2, T, st2, f2, W, ⟨m0, w0⟩, turn⟩ := h2
  subst e
  -- what stays true of the iterator's objects through the loop
  have stat : ∀ {H' : Hp}, (∀ b ∈ fp, H' b = none) → ∀ b ∈ fp, FpOk X pins H' b := fun hn b hb => ⟨hn b hb, (f2 b hb).2⟩
  refine codeAny_forLoop_any (fun n s' => ∃ i σ' H', Inv X pins σ' H' s' ∧ tn i s'.heap ∧ (∀ b ∈ fp, H' b = none) ∧ W i n σ' H') ?_ m0 ⟨0, σ, H2, I2, st2, fun b hb => (f2 b hb).1, w0⟩
  rintro n s3 ⟨i, σ3, H3, I3, st3, fr3, w3⟩
  rcases turn i n σ3 H3 w3 with ⟨stop, qn⟩ | ⟨go, N, hN, step⟩
  · refine wpAny_passesOwn hp (thn (T.done X rfl rfl rfl hc i pins s3 σ3 H3 X.xe I3 (stat fr3) st3 stop) fun r s4 ⟨hr, I4⟩ => ?_)
    subst hr
    exact wpAny_execs_nil ⟨σ3, H3, I4, qn⟩
  · refine wpAny_passesOwn hp (thn (T.item X rfl rfl rfl hc i pins s3 σ3 H3 X.xe I3 (stat fr3) st3 go) fun r s4 ⟨u, hr, h4⟩ => ?_)
    subst hr
    refine wpAny_passesOwn hp (thn h4 fun _ s5 ⟨x, H5, I5, r5, y5, st5, fr5⟩ => ?_)
    have I5' := I5.pinned (stat fr5) (T.obj _ _ st5)
    refine wpAny_passesOwn hp (thn (hg _ s5 σ3 H5 x u _ I5' r5 (step x H5 y5)) fun _ s6 ⟨σ6, H6, I6, q6⟩ => ?_)
    refine wpAny_passesOwn hp (thn (hb _ s6 σ6 H6 _ I6 q6) fun f s7 q7 => ?_)
    have again : ∀ {σ7 : St} {H7 : Hp}, Inv X (pins ++ pinsAt fp s5.heap) σ7 H7 s7 → N σ7 H7 → ∃ m, m < n ∧ ∃ i σ' H', Inv X pins σ' H' s7 ∧ tn i s7.heap ∧ (∀ b ∈ fp, H' b = none) ∧ W i m σ' H' := fun {σ7 H7} I7 n7 => by
      obtain ⟨m', hm, w7⟩ := hN σ7 H7 n7
      refine ⟨m', hm, i + 1, σ7, H7, I7.unpinned, T.keep _ _ _ st5 fun b hb o e => (I7.pin (b, o) (List.mem_append_right _ (List.mem_append_right _ (mem_pinsAt hb e)))).1, fun b hb => ?_, w7⟩
      obtain ⟨o, e, d⟩ := T.obj _ _ st5 b hb
      exact (I7.pin (b, o) (List.mem_append_right _ (List.mem_append_right _ (mem_pinsAt hb e)))).2.1
    cases f with
    | next => obtain ⟨σ7, H7, I7, n7⟩ := q7; exact again I7 n7
    | cont => obtain ⟨σ7, H7, I7, n7⟩ := q7; exact again I7 n7
    | brk => obtain ⟨σ7, H7, I7, q7⟩ := q7; exact ⟨σ7, H7, I7.unpinned, q7⟩
    | ret v => obtain ⟨x7, σ7, H7, I7, r7, q7⟩ := q7; exact ⟨x7, σ7, H7, I7.unpinned, r7, q7⟩
end

end L2

namespace L2
open PySem PySem.Spec PyProof.Rows

abbrev R2 := V → V → Hp → VK → Prop
/-- a two-place operation on values: f is binaryOp op, inplaceOp op or compareOp op -/
def OpR (X : Cx) (f : Value → Value → Sem Value) (r : R2) : Prop :=
  ∀ (pins : List (Addr × Obj)) (s : Shared) (σ : St) (H : Hp) (x y : V) (v u : Value) (Q : VK), Inv X pins σ H s → RelV x v → RelV y u → r x y H Q →
    wpAny (model X.prog X.w) X.A (f v u) (EP X pins σ Q) X.xe s
/-- a one-place operation -/
def UnR (X : Cx) (f : Value → Sem Value) (r : V → Hp → VK → Prop) : Prop :=
  ∀ (pins : List (Addr × Obj)) (s : Shared) (σ : St) (H : Hp) (x : V) (v : Value) (Q : VK), Inv X pins σ H s → RelV x v → r x H Q →
    wpAny (model X.prog X.w) X.A (f v) (EP X pins σ Q) X.xe s
/-- a call of a value that is known (a builtin, a type) with values -/
def CallR (X : Cx) (f : Value) (r : List V → Hp → VK → Prop) : Prop :=
  ∀ (pins : List (Addr × Obj)) (s : Shared) (σ : St) (H : Hp) (xs : List V) (us : List Value) (Q : VK), Inv X pins σ H s → Vals xs us → r xs H Q →
    wpAny (model X.prog X.w) X.A (call f us) (EP X pins σ Q) X.xe s
def tOp (r : R2) (ta tb : TE) : TE := fun σ H Q => ta σ H fun x H1 => tb σ H1 fun y H2 => r x y H2 Q
def tUn (r : V → Hp → VK → Prop) (ta : TE) : TE := fun σ H Q => ta σ H fun x H1 => r x H1 Q
/-- ints in, under C, and a value out -/
def rI (C : Int → Int → Prop) (g : Int → Int → V) : R2 := fun x y H Q => ∃ i j, x = .int i ∧ y = .int j ∧ C i j ∧ Q (g i j) H
def rI0 (g : Int → Int → V) : R2 := fun x y H Q => ∃ i j, x = .int i ∧ y = .int j ∧ Q (g i j) H
def rU (g : Int → V) : V → Hp → VK → Prop := fun x H Q => ∃ i, x = .int i ∧ Q (g i) H

section
variable {X : Cx} {a b c : Expr} {ta tb tc : TE} {pos : Pos}

theorem binT (ha : PE X a ta) (hb : PE X b tb) {pins : List (Addr × Obj)} {s : Shared} {σ : St} {H : Hp} {R : V → V → Hp → Prop} (I : Inv X pins σ H s)
    (h : ta σ H fun x H1 => tb σ H1 fun y H2 => R x y H2) {Q : Value → Shared → Prop} {f : Value → Value → Sem Value}
    (hf : ∀ v u s2 x y H2, Inv X pins σ H2 s2 → RelV x v → RelV y u → R x y H2 → wpAny (model X.prog X.w) X.A (f v u) Q X.xe s2) :
    wpAny (model X.prog X.w) X.A (eval a X.env) (fun v s₁ => wpAny (model X.prog X.w) X.A (eval b X.env) (fun u s₂ => wpAny (model X.prog X.w) X.A (f v u) Q X.xe s₂) X.xe s₁) X.xe s := by
  refine thn (ha pins s σ H _ I h) fun v s1 ⟨x, H1, I1, r1, q1⟩ => ?_
  refine thn (hb pins s1 σ H1 _ I1 q1) fun u s2 ⟨y, H2, I2, r2, q2⟩ => ?_
  exact hf v u s2 x y H2 I2 r1 r2 q2

theorem pe_op {op : Operator} {r : R2} (ho : OpR X (binaryOp op) r) (ha : PE X a ta) (hb : PE X b tb) : PE X (.BinOp a op b pos) (tOp r ta tb) := by
  intro pins s σ H Q I h
  exact wpAny_BinOp (binT ha hb I h fun v u s2 x y H2 I2 rx ry q => ho pins s2 σ H2 x y v u Q I2 rx ry q)
theorem pe_un {op : UnaryOp} {r : V → Hp → VK → Prop} (ho : UnR X (unaryOp op) r) (ha : PE X a ta) : PE X (.UnaryOp op a pos) (tUn r ta) := by
  intro pins s σ H Q I h
  exact UnaryOp_ (thn (ha pins s σ H _ I h) fun v s1 ⟨x, H1, I1, r1, q1⟩ => ho pins s1 σ H1 x v Q I1 r1 q1)
theorem opI {f : Value → Value → Sem Value} {C : Int → Int → Prop} {g : Int → Int → Int}
    (rule : ∀ (i j : Int) (t u : Tok) (s : Shared) (Q : Value → Shared → Prop) (E : Value → Shared → Prop), C i j → Q (.int (g i j) s.toks) { s with toks := s.toks + 1 } → wpAny (model X.prog X.w) X.A (f (.int i t) (.int j u)) Q E s) :
    OpR X f (rI C fun i j => .int (g i j)) := by
  intro pins s σ H x y v u Q I rx ry h
  obtain ⟨i, j, rfl, rfl, hc, q⟩ := h
  obtain ⟨t, rfl⟩ := rx
  obtain ⟨t', rfl⟩ := ry
  exact rule i j t t' s _ _ hc ⟨.int (g i j), H, I.tok _, ⟨_, rfl⟩, q⟩
theorem opI0 {f : Value → Value → Sem Value} {g : Int → Int → Int}
    (rule : ∀ (i j : Int) (t u : Tok) (s : Shared) (Q : Value → Shared → Prop) (E : Value → Shared → Prop), Q (.int (g i j) s.toks) { s with toks := s.toks + 1 } → wpAny (model X.prog X.w) X.A (f (.int i t) (.int j u)) Q E s) :
    OpR X f (rI0 fun i j => .int (g i j)) := by
  intro pins s σ H x y v u Q I rx ry h
  obtain ⟨i, j, rfl, rfl, q⟩ := h
  obtain ⟨t, rfl⟩ := rx
  obtain ⟨t', rfl⟩ := ry
  exact rule i j t t' s _ _ ⟨.int (g i j), H, I.tok _, ⟨_, rfl⟩, q⟩
theorem opB0 {f : Value → Value → Sem Value} {g : Int → Int → Bool}
    (rule : ∀ (i j : Int) (t u : Tok) (s : Shared) (Q : Value → Shared → Prop) (E : Value → Shared → Prop), Q (.bool (g i j)) s → wpAny (model X.prog X.w) X.A (f (.int i t) (.int j u)) Q E s) :
    OpR X f (rI0 fun i j => .bl (g i j)) := by
  intro pins s σ H x y v u Q I rx ry h
  obtain ⟨i, j, rfl, rfl, q⟩ := h
  obtain ⟨t, rfl⟩ := rx
  obtain ⟨t', rfl⟩ := ry
  exact rule i j t t' s _ _ ⟨.bl (g i j), H, I, rfl, q⟩

theorem op_add : OpR X (binaryOp .Add) (rI0 fun i j => .int (i + j)) := opI0 fun _ _ _ _ _ _ _ q => add_int q
theorem op_sub : OpR X (binaryOp .Sub) (rI0 fun i j => .int (i - j)) := opI0 fun _ _ _ _ _ _ _ q => sub_int q
/-- % by a positive divisor of any size -/
theorem op_mod : OpR X (binaryOp .Mod) (rI (fun _ j => 0 < j) fun i j => .int (i % j)) := opI fun i j _ _ _ _ _ hc q => by
  have h1 : (0 : Int) < j := hc
  exact mod_int' (by omega) (by rw [Int.fmod_eq_emod_of_nonneg i (by omega)]; exact q)
theorem unI {f : Value → Sem Value} {g : Int → Int}
    (rule : ∀ (i : Int) (t : Tok) (s : Shared) (Q : Value → Shared → Prop) (E : Value → Shared → Prop), Q (.int (g i) s.toks) { s with toks := s.toks + 1 } → wpAny (model X.prog X.w) X.A (f (.int i t)) Q E s) :
    UnR X f (rU fun i => .int (g i)) := by
  intro pins s σ H x v Q I rx h
  obtain ⟨i, rfl, q⟩ := h
  obtain ⟨t, rfl⟩ := rx
  exact rule i t s _ _ ⟨.int (g i), H, I.tok _, ⟨_, rfl⟩, q⟩
theorem un_neg : UnR X (unaryOp .USub) (rU fun i => .int (-i)) := unI fun _ _ _ _ _ q => neg_int q
end

/-- the scalars that == tells apart as data does -/
def scal : V → V → Bool
  | .non, .non => true | .non, .int _ => true | .int _, .non => true | .non, .bl _ => true | .bl _, .non => true | .non, .str _ => true | .str _, .non => true
  | .int _, .int _ => true | .bl _, .bl _ => true | .str _, .str _ => true | .byt _, .byt _ => true
  | .int _, .str _ => true | .str _, .int _ => true | .bl _, .str _ => true | .str _, .bl _ => true
  | _, _ => false
def rEq : R2 := fun x y H Q => scal x y = true ∧ Q (.bl (decide (x = y))) H
def rNe : R2 := fun x y H Q => scal x y = true ∧ Q (.bl (!decide (x = y))) H

theorem dec_int {i j : Int} : decide (V.int i = V.int j) = (i == j) := by
  rw [Bool.eq_iff_iff]
  simp
theorem dec_bl {i j : Bool} : decide (V.bl i = V.bl j) = (i == j) := by
  rw [Bool.eq_iff_iff]
  simp
theorem dec_str {i j : Str} : decide (V.str i = V.str j) = (i == j) := by
  rw [Bool.eq_iff_iff]
  simp
theorem dec_byt {i j : Array UInt8} : decide (V.byt i = V.byt j) = (i.toList == j.toList) := by
  rw [Bool.eq_iff_iff]
  cases i
  cases j
  simp

section
variable {X : Cx} {a b c : Expr} {ta tb tc : TE} {pos : Pos}
theorem fin_bl {pins : List (Addr × Obj)} {σ : St} {H : Hp} {s : Shared} {Q : VK} {k k' : Bool} (I : Inv X pins σ H s) (q : Q (.bl k) H) (e : k = k') : EP X pins σ Q (.bool k') s := by
  subst e
  exact ⟨.bl k, H, I, rfl, q⟩
theorem op_eq : OpR X (compareOp .Eq) rEq := by
  intro pins s σ H x y v u Q I rx ry h
  obtain ⟨hs, q⟩ := h
  cases x with
  | non =>
    cases rx
    cases y with
    | non => cases ry; exact PySem.EqNone.eq_none_none (fin_bl I q (by simp))
    | bl j => cases ry; exact PySem.EqNone.eq_none_bool (fin_bl I q (by simp))
    | int j => obtain ⟨t', rfl⟩ := ry; exact PySem.EqNone.eq_none_int (fin_bl I q (by simp))
    | str j => obtain ⟨t', rfl⟩ := ry; exact PySem.EqNone.eq_none_str (fin_bl I q (by simp))
    | _ => exact absurd (show false = true from hs) Bool.false_ne_true
  | bl i =>
    cases rx
    cases y with
    | non => cases ry; exact PySem.EqNone.eq_bool_none (fin_bl I q (by simp))
    | bl j => cases ry; exact eq_bool (fin_bl I q dec_bl)
    | str j => obtain ⟨t', rfl⟩ := ry; exact PySem.EqMixed.eq_bool_str (fin_bl I q (by simp))
    | _ => exact absurd (show false = true from hs) Bool.false_ne_true
  | int i =>
    obtain ⟨t, rfl⟩ := rx
    cases y with
    | non => cases ry; exact PySem.EqNone.eq_int_none (fin_bl I q (by simp))
    | int j => obtain ⟨t', rfl⟩ := ry; exact eq_int (fin_bl I q dec_int)
    | str j => obtain ⟨t', rfl⟩ := ry; exact PySem.EqMixed.eq_int_str (fin_bl I q (by simp))
    | _ => exact absurd (show false = true from hs) Bool.false_ne_true
  | str i =>
    obtain ⟨t, rfl⟩ := rx
    cases y with
    | non => cases ry; exact PySem.EqNone.eq_str_none (fin_bl I q (by simp))
    | bl j => cases ry; exact PySem.EqMixed.eq_str_bool (fin_bl I q (by simp))
    | int j => obtain ⟨t', rfl⟩ := ry; exact PySem.EqMixed.eq_str_int (fin_bl I q (by simp))
    | str j => obtain ⟨t', rfl⟩ := ry; exact eq_str (fin_bl I q dec_str)
    | _ => exact absurd (show false = true from hs) Bool.false_ne_true
  | byt i =>
    obtain ⟨t, rfl⟩ := rx
    cases y with
    | byt j => obtain ⟨t', rfl⟩ := ry; exact PySem.W.eq_bytes (fin_bl I q dec_byt)
    | _ => exact absurd (show false = true from hs) Bool.false_ne_true
  | _ => cases y <;> exact absurd (show false = true from hs) Bool.false_ne_true
theorem op_ne : OpR X (compareOp .NotEq) rNe := by
  intro pins s σ H x y v u Q I rx ry h
  obtain ⟨hs, q⟩ := h
  cases x with
  | non =>
    cases rx
    cases y with
    | non => cases ry; exact PySem.EqNone.ne_none_none (fin_bl I q (by simp))
    | bl j => cases ry; exact PySem.EqNone.ne_none_bool (fin_bl I q (by simp))
    | int j => obtain ⟨t', rfl⟩ := ry; exact PySem.EqNone.ne_none_int (fin_bl I q (by simp))
    | str j => obtain ⟨t', rfl⟩ := ry; exact PySem.EqNone.ne_none_str (fin_bl I q (by simp))
    | _ => exact absurd (show false = true from hs) Bool.false_ne_true
  | bl i =>
    cases rx
    cases y with
    | non => cases ry; exact PySem.EqNone.ne_bool_none (fin_bl I q (by simp))
    | bl j => cases ry; exact ne_bool (fin_bl I q (congrArg not dec_bl))
    | str j => obtain ⟨t', rfl⟩ := ry; exact PySem.EqMixed.ne_bool_str (fin_bl I q (by simp))
    | _ => exact absurd (show false = true from hs) Bool.false_ne_true
  | int i =>
    obtain ⟨t, rfl⟩ := rx
    cases y with
    | non => cases ry; exact PySem.EqNone.ne_int_none (fin_bl I q (by simp))
    | int j => obtain ⟨t', rfl⟩ := ry; exact ne_int (fin_bl I q (congrArg not dec_int))
    | str j => obtain ⟨t', rfl⟩ := ry; exact PySem.EqMixed.ne_int_str (fin_bl I q (by simp))
    | _ => exact absurd (show false = true from hs) Bool.false_ne_true
  | str i =>
    obtain ⟨t, rfl⟩ := rx
    cases y with
    | non => cases ry; exact PySem.EqNone.ne_str_none (fin_bl I q (by simp))
    | bl j => cases ry; exact PySem.EqMixed.ne_str_bool (fin_bl I q (by simp))
    | int j => obtain ⟨t', rfl⟩ := ry; exact PySem.EqMixed.ne_str_int (fin_bl I q (by simp))
    | str j => obtain ⟨t', rfl⟩ := ry; exact ne_str (fin_bl I q (congrArg not dec_str))
    | _ => exact absurd (show false = true from hs) Bool.false_ne_true
  | byt i =>
    obtain ⟨t, rfl⟩ := rx
    cases y with
    | byt j => obtain ⟨t', rfl⟩ := ry; exact PySem.W.ne_bytes (fin_bl I q (congrArg not dec_byt))
    | _ => exact absurd (show false = true from hs) Bool.false_ne_true
  | _ => cases y <;> exact absurd (show false = true from hs) Bool.false_ne_true

theorem op_lt : OpR X (compareOp .Lt) (rI0 fun i j => .bl (decide (i < j))) := opB0 fun _ _ _ _ _ _ _ q => lt_int q
theorem op_le : OpR X (compareOp .LtE) (rI0 fun i j => .bl (decide (i ≤ j))) := opB0 fun _ _ _ _ _ _ _ q => le_int q
theorem nomark (b : Expr) {op : CmpOp} (h : op ≠ .In := by decide) (h2 : op ≠ .NotIn := by decide) : behindInMarks op b = false := by
  have e1 : (op == CmpOp.In) = false := by cases op <;> first | rfl | exact absurd rfl h
  have e2 : (op == CmpOp.NotIn) = false := by cases op <;> first | rfl | exact absurd rfl h2
  cases b <;> simp [behindInMarks, e1, e2]
/-- a comparison as a value; hm: nomark b, or (for in, not in) by with_unfolding_all rfl -/
theorem pe_cmpR {op : CmpOp} {r : R2} (ho : OpR X (compareOp op) r) (ha : PE X a ta) (hb : PE X b tb) (hm : behindInMarks op b = false) : PE X (.Compare a [op] [b] pos) (tOp r ta tb) := by
  intro pins s σ H Q I h
  exact wpAny_Compare1 (binT ha hb I h fun v u s2 x y H2 I2 rx ry q => ho pins s2 σ H2 x y v u Q I2 rx ry q) hm
/-- a reading of a value as a test -/
def tTest (t : TE) : TT := fun σ H Q => t σ H fun x H' => ∃ k, x = .bl k ∧ Q k H'
theorem pt_cmpR {op : CmpOp} {r : R2} (ho : OpR X (compareOp op) r) (ha : PE X a ta) (hb : PE X b tb) (hm : behindInMarks op b = false) : PT X (.Compare a [op] [b] pos) (tTest (tOp r ta tb)) := by
  intro pins s σ H Q I h
  refine wpAny_isTrue_Compare1 (thn (ha pins s σ H _ I h) fun v s1 ⟨x, H1, I1, r1, q1⟩ => thn (hb pins s1 σ H1 _ I1 q1) fun u s2 ⟨y, H2, I2, r2, q2⟩ =>
    thn (ho pins s2 σ H2 x y v u _ I2 r1 r2 q2) fun c s3 ⟨z, H3, I3, r3, k, e, q3⟩ => ?_) hm
  subst e
  cases r3
  exact wpAny_truthy_bool ⟨H3, I3, q3⟩
/-- a op1 b op2 c -/
def tChain (r r' : R2) (ta tb tc : TE) : TE := fun σ H Q => ta σ H fun x H1 => tb σ H1 fun y H2 => r x y H2 fun z H3 => ∃ k, z = .bl k ∧
  (if k = true then tc σ H3 fun w' H4 => r' y w' H4 Q else Q (.bl false) H3)
theorem pe_chain {op op' : CmpOp} {r r' : R2} (ho : OpR X (compareOp op) r) (ho' : OpR X (compareOp op') r') (ha : PE X a ta) (hb : PE X b tb) (hc : PE X c tc)
    (hm : lastMarks [op, op'] [b, c] = false := by with_unfolding_all rfl) : PE X (.Compare a [op, op'] [b, c] pos) (tChain r r' ta tb tc) := by
  intro pins s σ H Q I h
  refine Compare_chain (thn (ha pins s σ H _ I h) fun v s1 ⟨x, H1, I1, r1, q1⟩ => chain_link (thn (hb pins s1 σ H1 _ I1 q1) fun u s2 ⟨y, H2, I2, r2, q2⟩ =>
    thn (ho pins s2 σ H2 x y v u _ I2 r1 r2 q2) fun d s3 ⟨z, H3, I3, r3, k, e, q3⟩ => ?_)) hm
  subst e
  cases r3
  refine wpAny_truthy_bool ?_
  cases k with
  | false => exact ite_ff ⟨.bl false, H3, I3, rfl, q3⟩
  | true => exact ite_tt (chain_last (thn (hc pins s3 σ H3 _ I3 q3) fun w' s4 ⟨z', H4, I4, r4, q4⟩ => ho' pins s4 σ H4 y z' u w' Q I4 r2 r4 q4))
theorem pt_chain {op op' : CmpOp} {r r' : R2} (ho : OpR X (compareOp op) r) (ho' : OpR X (compareOp op') r') (ha : PE X a ta) (hb : PE X b tb) (hc : PE X c tc)
    (hm : lastMarks [op, op'] [b, c] = false := by with_unfolding_all rfl) : PT X (.Compare a [op, op'] [b, c] pos) (tTest (tChain r r' ta tb tc)) := by
  intro pins s σ H Q I h
  refine isTrue_chain (thn (ha pins s σ H _ I h) fun v s1 ⟨x, H1, I1, r1, q1⟩ => test_link (thn (hb pins s1 σ H1 _ I1 q1) fun u s2 ⟨y, H2, I2, r2, q2⟩ =>
    thn (ho pins s2 σ H2 x y v u _ I2 r1 r2 q2) fun d s3 ⟨z, H3, I3, r3, k, e, q3⟩ => ?_)) hm
  subst e
  cases r3
  refine wpAny_truthy_bool ?_
  cases k with
  | false =>
    obtain ⟨k', e', q'⟩ := q3
    cases e'
    exact ite_ff ⟨H3, I3, q'⟩
  | true =>
    refine ite_tt (test_last (thn (hc pins s3 σ H3 _ I3 q3) fun w' s4 ⟨z', H4, I4, r4, q4⟩ => thn (ho' pins s4 σ H4 y z' u w' _ I4 r2 r4 q4) fun d' s5 ⟨z2, H5, I5, r5, k2, e2, q5⟩ => ?_))
    subst e2
    cases r5
    exact wpAny_truthy_bool ⟨H5, I5, q5⟩

theorem line63 : (sizeLine : Nat) < 2 ^ 63 := by rw [sizeLine_eq]; decide
theorem vals1 {x : V} {us : List Value} (r : Vals [x] us) : ∃ u, us = [u] ∧ RelV x u := by
  cases r with
  | cons r1 r2 => cases r2; exact ⟨_, rfl, r1⟩
theorem vals2 {x y : V} {us : List Value} (r : Vals [x, y] us) : ∃ u w', us = [u, w'] ∧ RelV x u ∧ RelV y w' := by
  cases r with
  | cons r1 r2 =>
    cases r2 with
    | cons r3 r4 => cases r4; exact ⟨_, _, rfl, r1, r3⟩
theorem call_abs : CallR X (.builtin "abs") (fun xs H Q => ∃ i, xs = [.int i] ∧ Q (.int (if i < 0 then -i else i)) H) := by
  intro pins s σ H xs us Q I r h
  obtain ⟨i, rfl, q⟩ := h
  obtain ⟨u, rfl, t, rfl⟩ := vals1 r
  exact call_abs_int fun u tk => ⟨.int (if i < 0 then -i else i), H, I.tok _, ⟨_, rfl⟩, q⟩
theorem call_max2 (hc : X.calm = true) : CallR X (.builtin "max") (fun xs H Q => ∃ i j, xs = [.int i, .int j] ∧ Q (.int (if j > i then j else i)) H) := by
  intro pins s σ H xs us Q I r h
  obtain ⟨i, j, rfl, q⟩ := h
  obtain ⟨u, w', rfl, ⟨t, rfl⟩, ⟨t', rfl⟩⟩ := vals2 r
  refine max_two_ints (I.ok.hd hc) fun h' tk k => ⟨_, H, I.kept k, ?_, q⟩
  by_cases hj : j > i
  · rw [if_pos hj, if_pos hj]; exact ⟨_, rfl⟩
  · rw [if_neg hj, if_neg hj]; exact ⟨_, rfl⟩
end
end L2

namespace L2
open PySem PySem.Spec PyProof.Rows

structure ObjM (h : Heap) (x dx C : Addr) (mA : Str → Option Value) : Prop where
  obj : h.get? x = some (PySem.W.instObj C dx)
  ns : h.Ns1 dx mA
  ne : dx ≠ x

theorem lookIn_ns {h : Heap} {dx : Addr} {mA : Str → Option Value} (n : h.Ns1 dx mA) : ∃ od, h.get? dx = some od ∧ ∀ name, PySem.W.lookIn name od = some (mA name) := by
  obtain ⟨o, es, ep, ho, hd, hk, _, hm⟩ := n
  refine ⟨o, ho, fun name => ?_⟩
  have e := hm name
  unfold nsFind findBy at e
  rw [← Array.find?_toList] at e
  unfold PySem.W.lookIn
  rw [hd]
  dsimp only
  split
  · rename_i y q
    rw [q] at e
    exact congrArg some e
  · rename_i q
    rw [q] at e
    have a : es.toList.any (·.refKey) = false := by
      rw [List.any_eq_false]
      intro y hy
      obtain ⟨z, t, hkey⟩ := hk y (Array.mem_toList_iff.mp hy)
      simp [DictEntry.refKey, hkey]
    have a' : ¬ es.toList.any (·.refKey) = true := by rw [a]; exact Bool.false_ne_true
    rw [if_neg a']
    exact congrArg some e

theorem ObjM.look {h : Heap} {x dx C : Addr} {mA : Str → Option Value} (I : ObjM h x dx C mA) : ∃ od, PySem.W.InstAt h x (PySem.W.instObj C dx) C (some od) ∧ ∀ name, PySem.W.lookIn name od = some (mA name) :=
  let ⟨od, ho, hl⟩ := lookIn_ns I.ns
  ⟨od, ⟨I.obj, rfl, rfl, ho⟩, hl⟩

section
variable {prog : Program} {w : World} {A : Around} {E : Value → Shared → Prop} {s : Shared} {K : PySem.W.Frag} {x dx C f : Addr} {mA : Str → Option Value} {name : Str} {v : Value}

theorem get_map {expr : Bool} {Q : Value → Shared → Prop} (X : K.In s.heap) (I : ObjM s.heap x dx C mA) (hg : PySem.W.plainGet K C name = true) (hh : PySem.W.hasDictIn K C = true)
    (ha : PySem.W.findIn K (.ref C) name = some none) (hv : mA name = some v) (hv' : PySem.W.handedIn v = true) (h : Q v { s with toks := s.toks + 1 }) :
    wpAny (model prog w) A (getAttr (.ref x) name expr) Q E s := by
  obtain ⟨od, J, hl⟩ := I.look
  exact PySem.W.get_value X J (PySem.W.plainGet_of hg).1 (PySem.W.findObj_own hh ha rfl (by rw [hl, hv])) hv' h

theorem set_map {ns : List Str} {Q : Unit → Shared → Prop} (X : K.In s.heap) (I : ObjM s.heap x dx C mA)
    (hs : PySem.W.findIn K (.ref C) "__setattr__" = some (some (.builtin "object.__setattr__"))) (hp : PySem.W.plainOver K C = true) (ht : PySem.W.takerIn K C name = some none) (hh : PySem.W.hasDictIn K C = true)
    (hw : PySem.Within mA ns) (hsz : ns.length ≤ sizeLine)
    (h : ∀ h', ObjM h' x dx C (fun y => if y = name then some v else mA y) → Heap.SameBut dx s.heap h' → Q () { s with heap := h', toks := s.toks + 2 }) :
    wpAny (model prog w) A (setAttr (.ref x) name v) Q E s := by
  obtain ⟨od, J, hl⟩ := I.look
  refine PySem.W.set_plain X J hs (PySem.W.osa_open (s := { s with toks := s.toks + 1 }) (r := none) X J hp ht fun b => ?_)
  obtain ⟨cd, hc, hd'⟩ := PySem.W.any_some hh
  have hx : s.heap.get? x = some ⟨.ref C, some dx, .plain, #[]⟩ := I.obj
  refine wpAny_bind (wpAny_pure (wpAny_bind (wpAny_bind (wpAny_loadPart hx (wpAny_bind (PySem.W.Looks.here (s := { s with toks := s.toks + 1 }) (PySem.W.looks_clsIn X hc) ?_))))))
  rw [hd']
  refine wpAny_pure (a := some dx) (wpAny_bind (wpAny_pure (wpAny_bind ?_)))
  refine wpAny_nsSet1 (s := { s with toks := s.toks + 1 }) I.ns fun h' hn2 hs2 => ?_
  obtain ⟨oD, esD, epD, hoD, hdD, hcD⟩ := hn2.count (PySem.Within.cons name v hw)
  refine wpAny_bind (wpAny_lookBehind hoD (by rw [hdD]; exact pastItsLine_dict (Nat.le_trans hcD (by rw [List.length_cons]; omega))) ?_)
  exact wpAny_pure (h _ ⟨(hs2.2 _ (Ne.symm I.ne)).trans I.obj, hn2, I.ne⟩ hs2)

/-- C(..): the dict at the heap's end, the instance behind it; then its __init__ -/
theorem make_map {R : Result → Shared → Prop} {vs : List Value} {kw : List (Str × Value)} (X : K.In s.heap) (hm : PySem.W.makesIn K C = true)
    (hi : PySem.W.findIn K (.ref C) "__init__" = some (some (.ref f))) (hf : PySem.W.typeIn K (.ref f) = some (.type "function"))
    (h : codeAny (model prog w) (A.under (.builtin "type.__call__" ⟨.ref C :: vs, kw⟩)) (.call (.ref f) ⟨.ref (s.heap.objs.size + 1) :: vs, kw⟩) (PySem.W.InitBack (s.heap.objs.size + 1) R)
      { s with heap := (s.heap.push PySem.W.emptyDict).push (PySem.W.instObj C s.heap.objs.size) }) :
    codeAny (model prog w) A (.call (.ref C) ⟨vs, kw⟩) R s := by
  obtain ⟨hh, g, d, t, os⟩ := s
  exact PySem.W.make_core (PySem.W.makes_of X hm) (PySem.W.looks_findIn X hi) (fun self => PySem.W.bind_fn X self hf) (.inl rfl) h
end

def putF (f : Str) (v : V) : List (Str × V) → List (Str × V)
  | [] => [(f, v)]
  | (g, x) :: r => if g = f then (g, v) :: r else (g, x) :: putF f v r
theorem lookup_putF (f g : Str) (v : V) : ∀ fs : List (Str × V), (putF f v fs).lookup g = if g = f then some v else fs.lookup g
  | [] => by
    show List.lookup g [(f, v)] = _
    by_cases h : g = f
    · have hb : (g == f) = true := beq_iff_eq.mpr h
      simp only [List.lookup, hb, if_pos h]
    · have hb : (g == f) = false := beq_eq_false_iff_ne.mpr h
      simp only [List.lookup, hb, if_neg h]
  | (k, x) :: r => by
    have ih := lookup_putF f g v r
    rw [show putF f v ((k, x) :: r) = (if k = f then (k, v) :: r else (k, x) :: putF f v r) from rfl]
    by_cases hk : k = f
    · rw [if_pos hk]
      by_cases h : g = k
      · have hb : (g == k) = true := beq_iff_eq.mpr h
        simp only [List.lookup, hb, if_pos (h.trans hk)]
      · have hb : (g == k) = false := beq_eq_false_iff_ne.mpr h
        simp only [List.lookup, hb, if_neg (fun e : g = f => h (e.trans hk.symm))]
    · rw [if_neg hk]
      by_cases h : g = k
      · have hb : (g == k) = true := beq_iff_eq.mpr h
        simp only [List.lookup, hb, if_neg (fun e : g = f => hk (h.symm.trans e))]
      · have hb : (g == k) = false := beq_eq_false_iff_ne.mpr h
        simp only [List.lookup, hb]
        exact ih
theorem keys_putF (f : Str) (v : V) : ∀ fs : List (Str × V), f ∈ (putF f v fs).map (·.1) ∧ ∀ g, g ∈ fs.map (·.1) → g ∈ (putF f v fs).map (·.1)
  | [] => ⟨by simp [putF], fun g h => by simp at h⟩
  | (k, x) :: r => by
    obtain ⟨i1, i2⟩ := keys_putF f v r
    rw [show putF f v ((k, x) :: r) = (if k = f then (k, v) :: r else (k, x) :: putF f v r) from rfl]
    by_cases hk : k = f
    · rw [if_pos hk]
      subst hk
      exact ⟨by simp, fun g h => by simpa using h⟩
    · rw [if_neg hk]
      refine ⟨?_, fun g h => ?_⟩
      · rw [List.map_cons]
        exact List.mem_cons_of_mem _ i1
      · rw [List.map_cons] at h ⊢
        rcases List.mem_cons.mp h with e | e
        · exact List.mem_cons.mpr (.inl e)
        · exact List.mem_cons_of_mem _ (i2 g e)
theorem length_putF (f : Str) (v : V) : ∀ fs : List (Str × V), (putF f v fs).length ≤ fs.length + 1
  | [] => by simp [putF]
  | (k, x) :: r => by
    have ih := length_putF f v r
    rw [show putF f v ((k, x) :: r) = (if k = f then (k, v) :: r else (k, x) :: putF f v r) from rfl]
    by_cases hk : k = f
    · rw [if_pos hk, List.length_cons, List.length_cons]; omega
    · rw [if_neg hk, List.length_cons, List.length_cons]; omega

theorem RelO.some_of {v : V} {o : Option Value} (r : RelO (some v) o) : ∃ u, o = some u ∧ RelV v u := by
  cases o with
  | none => exact (show False from r).elim
  | some u => exact ⟨u, rfl, r⟩
theorem handed_of {v : V} {u : Value} (r : RelV v u) : PySem.W.handedIn u = true := by
  cases v with
  | non => cases (show u = Value.none from r); rfl
  | bl b => cases (show u = Value.bool b from r); rfl
  | int i => obtain ⟨t, e⟩ := (show ∃ t, u = Value.int i t from r); cases e; rfl
  | str x => obtain ⟨t, e⟩ := (show ∃ t, u = Value.str x t from r); cases e; rfl
  | byt b => obtain ⟨t, e⟩ := (show ∃ t, u = Value.bytes b t from r); cases e; rfl
  | flt b => obtain ⟨t, e⟩ := (show ∃ t, u = Value.float b t from r); cases e; rfl
  | ref a => cases (show u = Value.ref a from r); rfl
  | ty n => cases (show u = Value.type n from r); rfl

section
variable {P : Program} {w : World} {H H' : Hp} {h h' : Heap} {a C dx : Addr} {fs fs' : List (Str × V)}
theorem ins_get (hok : HOk P w H h) (e : H a = some (.ins C dx fs)) : ∃ mA, ObjM h a dx C mA ∧ (∀ f, RelO (fs.lookup f) (mA f)) ∧ PySem.Within mA (fs.map (·.1)) ∧ fs.length ≤ 1000 ∧ H dx = some (.own a) := by
  obtain ⟨d, z, ne, ob, mA, n, r, q⟩ := (show ObjOk P w H h a (.ins C dx fs) from hok a _ e)
  exact ⟨mA, ⟨ob, n, ne⟩, r, q, z, d⟩
end

structure Cls (K : PySem.W.Frag) (C : Addr) : Prop where
  pg : PySem.W.plainGet K C Str.empty = true
  hd : PySem.W.hasDictIn K C = true
  po : PySem.W.plainOver K C = true
  sa : PySem.W.findIn K (.ref C) "__setattr__" = some (some (.builtin "object.__setattr__"))
theorem Cls.get {K : PySem.W.Frag} {C : Addr} (c : Cls K C) (f : Str) : PySem.W.plainGet K C f = true := c.pg
/-- no class of it has the name -/
def NoAttr (K : PySem.W.Frag) (C : Addr) (f : Str) : Prop := PySem.W.findIn K (.ref C) f = some none
theorem NoAttr.taker {K : PySem.W.Frag} {C : Addr} {f : Str} (n : NoAttr K C f) : PySem.W.takerIn K C f = some none := by
  unfold PySem.W.takerIn
  rw [show PySem.W.findIn K (.ref C) f = some none from n]
  rfl
section
variable {X : Cx} {pins : List (Addr × Obj)} {σ : St} {H : Hp} {s : Shared} {a C dx : Addr} {fs : List (Str × V)} {f : Str} {v : V} {A : Around} {E : Value → Shared → Prop}

theorem getattr_ok {b : Bool} {Q : Value → Shared → Prop} (I : Inv X pins σ H s) (e : H a = some (.ins C dx fs)) (c : Cls X.K C) (n : NoAttr X.K C f) (l : fs.lookup f = some v)
    (h : ∀ u s', Inv X pins σ H s' → RelV v u → Q u s') : wpAny (model X.prog X.w) A (getAttr (.ref a) f b) Q E s := by
  obtain ⟨mA, O, r, _, _, _⟩ := ins_get I.hok e
  obtain ⟨u, hu, ru⟩ := RelO.some_of (v := v) (o := mA f) (by rw [← l]; exact r f)
  exact get_map I.kIn O (c.get f) c.hd n hu (handed_of ru) (h u _ (I.tok _) ru)

theorem setattr_ok {y : V} {u : Value} {Q : Unit → Shared → Prop} (I : Inv X pins σ H s) (e : H a = some (.ins C dx fs)) (c : Cls X.K C) (n : NoAttr X.K C f) (hl : fs.length < 1000) (ry : RelV y u)
    (h : ∀ s', Inv X pins σ (upd H a (.ins C dx (putF f y fs))) s' → Q () s') : wpAny (model X.prog X.w) A (setAttr (.ref a) f u) Q E s := by
  obtain ⟨mA, O, r, wi, _, ho⟩ := ins_get I.hok e
  have hz : (fs.map (·.1)).length ≤ sizeLine := by rw [List.length_map, sizeLine_eq]; omega
  refine set_map I.kIn O c.sa c.po n.taker c.hd wi hz fun h' O' sb => h _ ?_
  have hd : ∃ o, h'.get? dx = some o := let ⟨o, _, _, e', _⟩ := O'.ns; ⟨o, e'⟩
  refine I.write (x := a) (e := dx) (by rw [e]; exact True.intro) (.inr ho) (fun b q hb z => (sb.2 b hb).trans z) hd ?_
  refine ⟨by rw [upd_ne O.ne]; exact ho, ?_, O.ne, O'.obj, _, O'.ns, fun g => ?_, fun g hg => ?_⟩
  · have := length_putF f y fs; omega
  · show RelO ((putF f y fs).lookup g) (if g = f then some u else mA g)
    rw [lookup_putF]
    by_cases q : g = f
    · rw [if_pos q, if_pos q]; exact ry
    · rw [if_neg q, if_neg q]; exact r g
  · by_cases q : g = f
    · rw [q]; exact (keys_putF f y fs).1
    · refine (keys_putF f y fs).2 g (wi g fun z => hg ?_)
      show (if g = f then some u else mA g) = none
      rw [if_neg q]; exact z

/-- a new instance, tracked, without attributes -/
theorem Inv.made (I : Inv X pins σ H s) : Inv X pins σ (upd (upd H s.heap.objs.size (.own (s.heap.objs.size + 1))) (s.heap.objs.size + 1) (.ins C s.heap.objs.size []))
    { s with heap := (s.heap.push PySem.W.emptyDict).push (PySem.W.instObj C s.heap.objs.size) } := by
  have e1 : (s.heap.push PySem.W.emptyDict).get? s.heap.objs.size = some PySem.W.emptyDict := Heap.get?_push_size s.heap rfl
  have e2 : ((s.heap.push PySem.W.emptyDict).push (PySem.W.instObj C s.heap.objs.size)).get? (s.heap.objs.size + 1) = some (PySem.W.instObj C s.heap.objs.size) := by
    have := Heap.get?_push_size (s.heap.push PySem.W.emptyDict) (o := PySem.W.instObj C s.heap.objs.size) rfl
    rwa [Heap.size_push] at this
  have e3 : (s.heap.push PySem.W.emptyDict).Ns s.heap.objs.size (fun _ => none) := ⟨PySem.W.emptyDict, #[], _, e1, rfl, (fun e he => absurd he (by simp)), fun _ => rfl⟩
  have I1 := I.laid (a := s.heap.objs.size) (o := .own (s.heap.objs.size + 1)) (h' := s.heap.push PySem.W.emptyDict) (t' := s.toks) (fun b u q => Heap.get?_push_of_some _ q) (Nat.le_refl _) ⟨_, e1⟩
  refine I1.laid (a := s.heap.objs.size + 1) (o := .ins C s.heap.objs.size []) (t' := s.toks) (fun b u q => Heap.get?_push_of_some _ q) (Nat.le_of_eq (Heap.size_push _ _)) ?_
  have ne : s.heap.objs.size ≠ s.heap.objs.size + 1 := Nat.ne_of_lt (Nat.lt_succ_self _)
  refine ⟨by rw [upd_ne ne, upd_same], Nat.zero_le _, ne, e2, fun _ => none, (Heap.Ns1.of_empty e3).at fun o q => Heap.get?_push_of_some _ q, fun _ => True.intro, fun y hy => absurd rfl hy⟩

/-- e.f where nothing but the object is asked: through attributeBase (super) and the last hold -/
theorem attr_of {prog : Program} {w : World} {env : Env} {e : Expr} {f : Str} {pos : Pos} {s : Shared} {Q : Value → Shared → Prop} (hb : attributeBase e f env (eval e env) = eval e env)
    (h : wpAny (model prog w) A (eval e env) (fun o s₁ => wpAny (model prog w) A (getAttr o f true) Q E s₁) E s) : wpAny (model prog w) A (eval (.Attribute e f pos) env) Q E s :=
  Attribute_any_ h (by rw [arm_eval_Attribute, hb])
end

/-- e.f, an attribute of the instance -/
def tFld (K : PySem.W.Frag) (ta : TE) (f : Str) : TE := fun σ H Q => ta σ H fun x H1 => ∃ a C dx fs v, x = .ref a ∧ H1 a = some (.ins C dx fs) ∧ Cls K C ∧ NoAttr K C f ∧ fs.lookup f = some v ∧ Q v H1
/-- e.f = value -/
def sFld (K : PySem.W.Frag) (ta tv : TE) (f : Str) : TS := fun D σ H => tv σ H fun y H1 => ta σ H1 fun x H2 => ∃ a C dx fs, x = .ref a ∧ H2 a = some (.ins C dx fs) ∧ Cls K C ∧ NoAttr K C f ∧ fs.length < 1000 ∧
  D.nx σ (upd H2 a (.ins C dx (putF f y fs)))
section
variable {X : Cx} {o e value : Expr} {f : Str} {pos pos' tpos : Pos} {ta tv : TE}
theorem pe_fld (he : PE X e ta) (hb : attributeBase e f X.env (eval e X.env) = eval e X.env) : PE X (.Attribute e f pos) (tFld X.K ta f) := by
  intro pins s σ H Q I h
  refine attr_of hb (thn (he pins s σ H _ I h) fun u s1 ⟨x, H1, I1, rx, a, C, dx, fs, v, ex, ea, c, n, l, q⟩ => ?_)
  subst ex
  obtain rfl : u = Value.ref a := rx
  exact getattr_ok I1 ea c n l fun u' s2 I2 ru => ⟨v, H1, I2, ru, q⟩
theorem ps_fld (ha : PE X o ta) (hv : PE X value tv) (hs : swapsWith value (some (.Attribute o f pos')) pos.line X.env = pure false) : PS X (.Assign [.Attribute o f pos'] value pos) (sFld X.K ta tv f) := by
  intro pins s σ H D I h
  refine plainObj_wpAny_Assign_Attribute (thn (hv pins s σ H _ I h) fun u s1 ⟨y, H1, I1, ry, q⟩ => thn (ha pins s1 σ H1 _ I1 q) fun ov s2 ⟨x, H2, I2, rx, a, C, dx, fs, ex, ea, c, n, l, q2⟩ => ?_) hs
  subst ex
  obtain rfl : ov = Value.ref a := rx
  exact setattr_ok I2 ea c n l ry fun s3 I3 => ⟨σ, _, I3, q2⟩
end

section
variable {X : Cx} {pins : List (Addr × Obj)} {σ : St} {H : Hp} {s : Shared} {A : Around} {E : Value → Shared → Prop} {Q : Value → Shared → Prop} {c : Value} {b : Bool}
end
end L2

namespace L2
open PySem PySem.Spec PyProof.Rows

structure Room (k : Nat) (A : Around) : Prop where
  hd : A.handled = none
  dp : A.depth + 3 * k + 5 < recursionLimit
  un : A.units + 16 * k + 200 < cLine
theorem Room.mono {j k : Nat} {A : Around} (r : Room k A) (h : j ≤ k) : Room j A := ⟨r.hd, by have := r.dp; omega, by have := r.un; omega⟩
theorem Room.deeper {k : Nat} {A : Around} (r : Room (k + 1) A) (env : Env) : Room k (A.deeper env) :=
  ⟨r.hd, by have := r.dp; show A.depth + 1 + 3 * k + 5 < _; omega, by have := r.un; show A.units + 3 + 16 * k + 200 < _; omega⟩
theorem make_depth {A : Around} {C : Addr} {us : List Value} {kw : List (Str × Value)} : (A.under (.builtin "type.__call__" ⟨.ref C :: us, kw⟩)).depth = A.depth + 1 := by
  first | rfl | simp [Around.under, Code.weight, Code.isCreation, Code.isGuard, Code.isCaller, Code.frames, Code.isFrame, guardIds]
theorem make_units {A : Around} {C : Addr} {us : List Value} {kw : List (Str × Value)} : (A.under (.builtin "type.__call__" ⟨.ref C :: us, kw⟩)).units = A.units + 1 := by
  first | rfl | simp [Around.under, Code.cUnits, Code.frames, Code.isFrame]
theorem Room.make {k : Nat} {A : Around} (r : Room (k + 1) A) (C : Addr) (us : List Value) (kw : List (Str × Value)) : Room k (A.under (.builtin "type.__call__" ⟨.ref C :: us, kw⟩)) :=
  ⟨r.hd, by have := r.dp; rw [make_depth]; omega, by have := r.un; rw [make_units]; omega⟩
theorem Room.depth {k : Nat} {A : Around} (r : Room k A) : A.depth < recursionLimit := by have := r.dp; omega
theorem Room.units {k : Nat} {A : Around} (r : Room k A) : A.units + 64 < cLine := by have := r.un; omega
def tNil : TA := fun _ H Q => Q [] H
def tCons (ta : TE) (tr : TA) : TA := fun σ H Q => ta σ H fun x H1 => tr σ H1 fun xs H2 => Q (x :: xs) H2
section
variable {X : Cx} {e : Expr} {es : List Expr} {te : TE} {t : TA} {pos : Pos}
theorem pa_nil : PA X [] tNil := fun _ _ _ _ H Q I h => Calls.spliced_nil ⟨[], H, I, .nil, h⟩
theorem pa_cons (ha : PE X e te) (hr : PA X es t) (hs : starEach (e :: es) X.env = (false, eval e X.env) :: starEach es X.env := by rfl) : PA X (e :: es) (tCons te t) := by
  intro pos pins s σ H Q I h
  rw [hs]
  show wpAny _ _ (spliced ((false, eval e X.env) :: backTo pos (starEach es X.env))) _ _ s
  refine Calls.spliced_cons (thn (ha pins s σ H _ I h) fun u s1 ⟨x, H1, I1, r1, q1⟩ => ?_)
  exact thn (hr pos pins s1 σ H1 _ I1 q1) fun us s2 ⟨xs, H2, I2, r2, q2⟩ => ⟨x :: xs, H2, I2, .cons r1 r2, q2⟩

/-- a tuple, a list of written items -/
def tTup (t : TA) : TE := fun σ H Q => t σ H fun xs H1 => xs.length ≤ sizeLine ∧ ∀ p, H1 p = none → Q (.ref p) (upd H1 p (.tup xs))
def tLst (t : TA) : TE := fun σ H Q => t σ H fun xs H1 => xs.length ≤ sizeLine ∧ ∀ p, H1 p = none → Q (.ref p) (upd H1 p (.lst xs))
theorem pe_tup {x1} (h : PA X es t) : PE X (.Tuple es x1 pos) (tTup t) := by
  intro pins s σ H Q I hq
  refine wpAny_Tuple_spliced (thn (h pos pins s σ H _ I hq) fun us s1 ⟨xs, H1, I1, r, z, q⟩ => ⟨by rw [← r.length]; exact z, ?_⟩)
  have hf : H1 s1.heap.objs.size = none := I1.hok.fresh (Nat.le_refl _)
  refine ⟨.ref s1.heap.objs.size, upd H1 s1.heap.objs.size (.tup xs), I1.laid (t' := s1.toks) (fun b u e => Heap.get?_push_of_some _ e) (Nat.le_refl _) ?_, rfl, q _ hf⟩
  exact ⟨z, us, r, ⟨_, Heap.get?_push_size _ rfl, rfl, _, rfl⟩⟩
theorem pe_lst (h : PA X es t) : PE X (.List es pos) (tLst t) := by
  intro pins s σ H Q I hq
  refine wpAny_List_spliced (thn (h pos pins s σ H _ I hq) fun us s1 ⟨xs, H1, I1, r, z, q⟩ => ⟨by rw [← r.length]; exact z, ?_⟩)
  have hf : H1 s1.heap.objs.size = none := I1.hok.fresh (Nat.le_refl _)
  refine ⟨.ref s1.heap.objs.size, upd H1 s1.heap.objs.size (.lst xs), I1.laid (t' := s1.toks) (fun b u e => Heap.get?_push_of_some _ e) (Nat.le_refl _) ?_, rfl, q _ hf⟩
  exact ⟨z, us, 0, r, Heap.get?_push_size _ rfl⟩
end

/-- a def's promise: the bound arguments in the parameters' order, the heap, the wanted end, the wanted exception -/
abbrev Sp := List V → Hp → VK → XK → Prop
/-- how an exception lies behind a call (file 08 gives it): the callers' frames, abstract heap and state ahead of the call, the wish, the exception, the state -/
abbrev CXT := List Env → Hp → Shared → XK → Value → Shared → Prop

/-- the state at a call -/
structure Env0 (P : Program) (w : World) (K : PySem.W.Frag) (mg : Str → Option Value) (base : Heap) (A : Around) (outer : List Env) (s : Shared) (H : Hp) : Prop where
  frames : A.frames = some outer
  mod : Mod K mg base
  bs : ∀ b o, base.get? b = some o → s.heap.get? b = some o ∧ H b = none
  bsz : base.objs.size ≤ s.heap.objs.size
  funs : s.heap.FunFrames base outer
  frf : ∀ b ∈ frs outer, H b = none
  hok : HOk P w H s.heap
  bare : AllBare s.gens
/-- a call's end -/
def CE (outer : List Env) (P : Program) (w : World) (H : Hp) (s : Shared) (Q : VK) (u : Value) (s' : Shared) : Prop :=
  ∃ v H', s'.os = s.os ∧ AllBare s'.gens ∧ Un (frs outer) [] H H' s.heap s'.heap ∧ HOk P w H' s'.heap ∧ RelV v u ∧ Q v H'
def CR (CX : CXT) (outer : List Env) (P : Program) (w : World) (H : Hp) (s : Shared) (Q : VK) (E : XK) (r : Result) (s' : Shared) : Prop :=
  match r with
  | .ok (.ret u) => CE outer P w H s Q u s'
  | .ok _ => False
  | .error e => CX outer H s E e s'
structure FnOk (P : Program) (w : World) (K : PySem.W.Frag) (mg : Str → Option Value) (base : Heap) (CX : CXT) (k : Nat) (f : Addr) (fd : FuncData) (ps : List Str) (sp : Sp) : Prop where
  len : ∀ vs H Q E, sp vs H Q E → vs.length = ps.length
  run : ∀ (A : Around) (outer : List Env) (s : Shared) (H : Hp) (args : Args) (us : List Value) (vs : List V) (Q : VK) (E : XK), Room k A → Env0 P w K mg base A outer s H → BindsTo s fd args (ps.zip us) → Vals vs us → sp vs H Q E →
    codeAny (model P w) A (.call (.ref f) args) (CR CX outer P w H s Q E) s
theorem Env0.make {P : Program} {w : World} {K : PySem.W.Frag} {mg : Str → Option Value} {base : Heap} {A : Around} {outer : List Env} {s : Shared} {H : Hp} (e : Env0 P w K mg base A outer s H) (C : Addr) (us : List Value) (kw : List (Str × Value)) :
    Env0 P w K mg base (A.under (.builtin "type.__call__" ⟨.ref C :: us, kw⟩)) outer s H := ⟨by first | exact e.frames | (simpa [Around.under, Code.envs, Code.isFrame, pushEnvs] using e.frames), e.mod, e.bs, e.bsz, e.funs, e.frf, e.hok, e.bare⟩
section
variable {X : Cx} {pins : List (Addr × Obj)} {σ : St} {H : Hp} {s s' : Shared}
/-- from a body: what a callee wants -/
theorem Inv.env0 (I : Inv X pins σ H s) : Env0 X.prog X.w X.K X.mg X.base X.A X.stack s H :=
  ⟨I.ok.frames, I.ok.mod, I.bs, Nat.le_trans I.ok.bsz I.sz, I.stack, I.stkFree, I.hok, I.bare⟩
/-- behind a call -/
theorem Inv.after {Q : VK} {u : Value} (I : Inv X pins σ H s) (h : CE X.stack X.prog X.w H s Q u s') : EP X pins σ Q u s' := by
  obtain ⟨v, H', os, bare, un, hok, r, q⟩ := h
  obtain ⟨hh, g, d, t, os'⟩ := s'
  obtain rfl : os' = s.os := os
  exact ⟨v, H', I.call (h' := hh) (g' := g) (d' := d) (t' := t) (ch := []) un hok bare (fun b z => absurd z (by simp)), r, q⟩
end

/-- f(..): the written arguments, then the defaults dvs; E: what is wanted of an exception -/
def tCall (sp : Sp) (dvs : List V) (E : XK) (t : TA) : TE := fun σ H Q => t σ H fun vs H1 => sp (vs ++ dvs) H1 Q E
/-- C(..): a new instance and its dict, then __init__ -/
def tMake (C : Addr) (sp : Sp) (dvs : List V) (E : XK) (t : TA) : TE := fun σ H Q => t σ H fun vs H1 => ∀ x dx, H1 x = none → H1 dx = none → dx ≠ x →
  sp (.ref x :: (vs ++ dvs)) (upd (upd H1 dx (.own x)) x (.ins C dx [])) (fun v H2 => v = .non ∧ Q (.ref x) H2) E

/-- how the parameters are bound: us the positional arguments, kw the keywords' values by name, ds the defaults that fill up -/
def Binds (K : PySem.W.Frag) (fd : FuncData) (ps : List Str) (ds : List Value) : Prop :=
  ∀ (s : Shared) (us : List Value), K.In s.heap → (us ++ ds).length = ps.length → BindsTo s fd ⟨us, []⟩ (ps.zip (us ++ ds))
/-- every parameter is given -/
theorem Binds.all {K : PySem.W.Frag} {fd : FuncData} {ps : List Str} (h : ∀ us : List Value, us.length = ps.length → bindArgs fd ⟨us, []⟩ = pure (ps.zip us)) : Binds K fd ps [] := fun s us _ hl => by
  rw [List.append_nil] at hl ⊢
  exact .of_eq (h us hl)

/-- an exception of a callee reaches what this body wants of exceptions -/
def Passes (CX : CXT) (X : Cx) (E : XK) : Prop := ∀ (pins : List (Addr × Obj)) (σ : St) (H : Hp) (s : Shared) (e : Value) (s' : Shared), Inv X pins σ H s → CX X.stack H s E e s' → X.xe e s'

section
variable {X : Cx} {CX : CXT} {k : Nat} {f C : Addr} {fd : FuncData} {ps : List Str} {sp : Sp} {dvs : List V} {ds : List Value} {E : XK} {x m : Str} {p pos apos : Pos} {e o : Expr} {es : List Expr} {ta : TE} {t : TA}

/-- the callee runs -/
theorem run_fn {pins : List (Addr × Obj)} {σ : St} {H : Hp} {s : Shared} {Q : VK} {us : List Value} {vs : List V} (F : FnOk X.prog X.w X.K X.mg X.base CX k f fd ps sp) (hr : Room k X.A) (hb : Binds X.K fd ps ds) (hd : Vals dvs ds) (hx : Passes CX X E)
    (I : Inv X pins σ H s) (r : Vals vs us) (h : sp (vs ++ dvs) H Q E) : wpAny (model X.prog X.w) X.A (call (.ref f) us) (EP X pins σ Q) X.xe s := by
  have r2 : Vals (vs ++ dvs) (us ++ ds) := r.append hd
  have hl : (us ++ ds).length = ps.length := by rw [← r2.length]; exact F.len _ _ _ _ h
  refine wpAny_call (codeAny_mono (F.run X.A X.stack s H ⟨us, []⟩ (us ++ ds) (vs ++ dvs) Q E hr I.env0 (hb s us I.kIn hl) r2 h) fun r s' hq => ?_)
  cases r with
  | error e => exact hx pins σ H s e s' I hq
  | ok fl =>
    cases fl with
    | ret u => exact I.after hq
    | next => exact False.elim hq
    | brk => exact False.elim hq
    | cont => exact False.elim hq

theorem pe_call (F : FnOk X.prog X.w X.K X.mg X.base CX k f fd ps sp) (hr : Room k X.A) (hg : Gl X x) (hm : X.mg x = some (.ref f)) (hk : PySem.W.keepIn X.K (.ref f) = true) (hb : Binds X.K fd ps ds) (hd : Vals dvs ds) (hx : Passes CX X E)
    (ha : PA X (e :: es) t) (hdb : (x == ("__debug__" : Str)) = false := by decide) (he : starEach (e :: es) X.env = (false, eval e X.env) :: starEach es X.env := by rfl) (hpl : (backTo pos (starEach es X.env)).any (·.1) = false := by rfl) :
    PE X (.Call (.Name x p) (e :: es) [] pos) (tCall sp dvs E t) := by
  intro pins s σ H Q I h
  refine wpAny_Call_Name_kw (ld_glob I hg hm ?_ hdb)
  refine PySem.W.callWith_K (h₀ := X.base) I.ok.mod.kin hk (thn (ha pos pins s σ H _ I h) fun us s1 ⟨vs, H1, I1, r, q⟩ => ⟨I1.kIn, ?_⟩) he hpl
  exact run_fn F hr hb hd hx I1 r q
/-- what a class must have to be made -/
structure Mk (K : PySem.W.Frag) (C f : Addr) : Prop where
  makes : PySem.W.makesIn K C = true
  init : PySem.W.findIn K (.ref C) "__init__" = some (some (.ref f))
  fn : PySem.W.isFn K (.ref f) = true
  kp : PySem.W.keepIn K (.ref C) = true

theorem run_make {pins : List (Addr × Obj)} {σ : St} {H : Hp} {s : Shared} {Q : VK} {us : List Value} {vs : List V} (M : Mk X.K C f) (F : FnOk X.prog X.w X.K X.mg X.base CX k f fd ps sp) (hr : Room (k + 1) X.A) (hb : Binds X.K fd ps ds) (hd : Vals dvs ds)
    (hx : Passes CX X E) (I : Inv X pins σ H s) (r : Vals vs us)
    (h : ∀ x dx, H x = none → H dx = none → dx ≠ x → sp (.ref x :: (vs ++ dvs)) (upd (upd H dx (.own x)) x (.ins C dx [])) (fun v H2 => v = .non ∧ Q (.ref x) H2) E) :
    wpAny (model X.prog X.w) X.A (call (.ref C) us) (EP X pins σ Q) X.xe s := by
  have hq := h (s.heap.objs.size + 1) s.heap.objs.size (I.hok.fresh (Nat.le_succ _)) (I.hok.fresh (Nat.le_refl _)) (Nat.ne_of_lt (Nat.lt_succ_self _))
  have I2 := Inv.made (C := C) I
  have r2 : Vals (V.ref (s.heap.objs.size + 1) :: (vs ++ dvs)) (Value.ref (s.heap.objs.size + 1) :: (us ++ ds)) := .cons rfl (r.append hd)
  have hl : (Value.ref (s.heap.objs.size + 1) :: us ++ ds).length = ps.length := by
    have e := r2.length
    rw [F.len _ _ _ _ hq] at e
    exact e.symm
  refine wpAny_call (make_map (f := f) I.kIn M.makes M.init (beq_iff_eq.mp M.fn) (codeAny_mono (F.run _ X.stack _ _ ⟨Value.ref (s.heap.objs.size + 1) :: us, []⟩ (Value.ref (s.heap.objs.size + 1) :: (us ++ ds)) _ _ E (hr.make C us [])
    (I2.env0.make C us []) (hb _ (Value.ref (s.heap.objs.size + 1) :: us) I2.kIn hl) r2 hq) fun r s' hq' => ?_))
  cases r with
  | error e => exact hx pins σ _ _ e s' I2 hq'
  | ok fl =>
    cases fl with
    | ret u =>
      obtain ⟨v, H', I3, rv, ev, q3⟩ := I2.after hq'
      subst ev
      exact ⟨rv, ⟨V.ref (s.heap.objs.size + 1), H', I3, rfl, q3⟩⟩
    | next => exact False.elim hq'
    | brk => exact False.elim hq'
    | cont => exact False.elim hq'
theorem pe_make (M : Mk X.K C f) (F : FnOk X.prog X.w X.K X.mg X.base CX k f fd ps sp) (hr : Room (k + 1) X.A) (hg : Gl X x) (hm : X.mg x = some (.ref C)) (hb : Binds X.K fd ps ds) (hd : Vals dvs ds) (hx : Passes CX X E)
    (ha : PA X (e :: es) t) (hdb : (x == ("__debug__" : Str)) = false := by decide) (he : starEach (e :: es) X.env = (false, eval e X.env) :: starEach es X.env := by rfl) (hpl : (backTo pos (starEach es X.env)).any (·.1) = false := by rfl) :
    PE X (.Call (.Name x p) (e :: es) [] pos) (tMake C sp dvs E t) := by
  intro pins s σ H Q I h
  refine wpAny_Call_Name_kw (ld_glob I hg hm ?_ hdb)
  refine PySem.W.callWith_K (h₀ := X.base) I.ok.mod.kin M.kp (thn (ha pos pins s σ H _ I h) fun us s1 ⟨vs, H1, I1, r, q⟩ => ⟨I1.kIn, ?_⟩) he hpl
  exact run_make M F hr hb hd hx I1 r q
end

section
variable {X : Cx} {CX : CXT} {k : Nat} {f C : Addr} {fd : FuncData} {ps ks : List Str} {sp : Sp} {E : XK} {x m : Str} {p pos apos kpos : Pos} {e o : Expr} {es : List Expr} {kws : List Keyword} {te ta : TE} {t tk : TA} {nm : Option Str}
variable {g : List Value → List Value → List Value} {gV : List V → List V → List V}
end

/-- names: the parameters first -/
structure FnScope (N P : List Str) (sc : Scope) : Prop where
  kind : sc.kind = .function
  co : sc.isCoroutine = false
  gen : sc.isGenerator = false
  nd : N.Nodup
  pre : N.take P.length = P
  par : ∀ x ∈ P, sc.names.lookup x = some .local ∨ sc.names.lookup x = some .cell
  nofree : ∀ y ∈ sc.names, y.2 ≠ .free

theorem bindL_out {kindOf : Str → Option NameKind} {x : Str} : ∀ {binds : List (Str × Value)} {m : Str → Option Value}, (∀ v, (x, v) ∉ binds) → bindL kindOf binds m x = m x
  | [], _, _ => rfl
  | (n, v) :: r, m, h => by
    unfold bindL
    rw [bindL_out fun w hw => h w (List.mem_cons_of_mem _ hw)]
    split
    · have : x ≠ n := by rintro rfl; exact h v List.mem_cons_self
      simp [this]
    · rfl
theorem bindC_out {kindOf : Str → Option NameKind} {x : Str} : ∀ {binds : List (Str × Value)} {m : Str → Option Value}, (∀ v, (x, v) ∉ binds) → bindC kindOf binds m x = m x
  | [], _, _ => rfl
  | (n, v) :: r, m, h => by
    unfold bindC
    rw [bindC_out fun w hw => h w (List.mem_cons_of_mem _ hw)]
    split
    · rfl
    · have : x ≠ n := by rintro rfl; exact h v List.mem_cons_self
      simp [this]
theorem bindL_get {kindOf : Str → Option NameKind} {x : Str} {v : Value} : ∀ {P : List Str} {vs : List Value} {i : Nat} {m : Str → Option Value}, P.Nodup → P[i]? = some x → vs[i]? = some v → kindOf x = some .local →
    bindL kindOf (P.zip vs) m x = some v
  | [], _, _, _, _, h, _, _ => by simp at h
  | _ :: _, [], _, _, _, _, h, _ => by simp at h
  | p :: P, w :: vs, 0, m, nd, h1, h2, hk => by
    simp at h1 h2; subst h1; subst h2
    show bindL kindOf ((p, w) :: P.zip vs) m p = _
    unfold bindL
    rw [bindL_out fun v hv => (List.nodup_cons.mp nd).1 (List.of_mem_zip hv).1, if_pos hk]
    simp
  | p :: P, w :: vs, i + 1, m, nd, h1, h2, hk => by
    show bindL kindOf ((p, w) :: P.zip vs) m x = _
    unfold bindL
    exact bindL_get (i := i) (List.nodup_cons.mp nd).2 (by simpa using h1) (by simpa using h2) hk
theorem bindC_get {kindOf : Str → Option NameKind} {x : Str} {v : Value} : ∀ {P : List Str} {vs : List Value} {i : Nat} {m : Str → Option Value}, P.Nodup → P[i]? = some x → vs[i]? = some v → kindOf x ≠ some .local →
    bindC kindOf (P.zip vs) m x = some v
  | [], _, _, _, _, h, _, _ => by simp at h
  | _ :: _, [], _, _, _, _, h, _ => by simp at h
  | p :: P, w :: vs, 0, m, nd, h1, h2, hk => by
    simp at h1 h2; subst h1; subst h2
    show bindC kindOf ((p, w) :: P.zip vs) m p = _
    unfold bindC
    rw [bindC_out fun v hv => (List.nodup_cons.mp nd).1 (List.of_mem_zip hv).1, if_neg hk]
    simp
  | p :: P, w :: vs, i + 1, m, nd, h1, h2, hk => by
    show bindC kindOf ((p, w) :: P.zip vs) m x = _
    unfold bindC
    exact bindC_get (i := i) (List.nodup_cons.mp nd).2 (by simpa using h1) (by simpa using h2) hk

/-- the names' values at the entry -/
def start (N : List Str) (vs : List V) : St := vs.map some ++ List.replicate (N.length - vs.length) none

/-- the context of a def's body, at its entry; an exception leaves the frame, then lies as CX says -/
def cxOf (CX : CXT) (P : Program) (w : World) (K : PySem.W.Frag) (mg : Str → Option Value) (base : Heap) (N : List Str) (qual : Str) (scope : Scope) (f : Addr) (cd : Value) (A : Around) (outer : List Env) (s : Shared) (H : Hp) (E : XK) : Cx where
  prog := P
  w := w
  K := K
  mg := mg
  base := base
  A := A.deeper (envOfC qual scope s.heap.objs.size f cd)
  N := N
  s_0 := s
  H_0 := H
  env := envOfC qual scope s.heap.objs.size f cd
  outer := outer
  stack := envOfC qual scope s.heap.objs.size f cd :: outer
  ex := []
  calm := true
  fn := fun _ => true
  pn := []
  xe := fun e s' => wpAny (model P w) (A.deeper (envOfC qual scope s.heap.objs.size f cd)) (leaving (envOfC qual scope s.heap.objs.size f cd) e) (fun _ s'' => CX outer H s E e s'') (fun e' s'' => CX outer H s E e' s'') s'

theorem cell_has {sc : Scope} {n : Nat} {x : Str} (h : sc.names.lookup x = some .cell) : ∃ c, (cellsFrom n sc.names []).lookup x = some c := by
  have q := PySem.W.cellsFrom_some sc.names n [] (.inl h)
  exact Option.isSome_iff_exists.mp q

theorem inv_start {CX : CXT} {P : Program} {w : World} {K : PySem.W.Frag} {mg : Str → Option Value} {base : Heap} {N ps : List Str} {qual : Str} {scope : Scope} {f : Addr} {cd : Value} {A : Around} {outer : List Env} {s s1 : Shared} {H : Hp} {E : XK} {us : List Value} {vs : List V}
    (S : FnScope N ps scope) (hd : A.handled = none) (e0 : Env0 P w K mg base A outer s H) (hl : vs.length = ps.length) (r : Vals vs us)
    (x : InCallC s s.heap.objs.size (bindL (envOfC qual scope s.heap.objs.size f cd).kindOf (ps.zip us) fun _ => none) (cellsFrom (s.heap.objs.size + 1) scope.names []) (bindC (envOfC qual scope s.heap.objs.size f cd).kindOf (ps.zip us) fun _ => none) s1) :
    Inv (cxOf CX P w K mg base N qual scope f cd A outer s H E) [] (start N vs) H s1 := by
  have hpl : ps.length ≤ N.length := by have := congrArg List.length S.pre; rw [List.length_take] at this; omega
  obtain ⟨h1, tk, rfl, hk⟩ := x.done
  have noA : ∀ b : Addr, b ∉ (cxOf CX P w K mg base N qual scope f cd A outer s H E).ex := fun b z => absurd (show b ∈ ([] : List Addr) from z) (by simp)
  refine ⟨⟨e0.mod, S.kind, rfl, rfl, Nat.le_refl _, fun y z c h1 h2 => ?_, fun y hy => ?_, fun y c _ h => ?_, fun _ => hd, Around.frames_deeper e0.frames, .inr ⟨rfl, rfl⟩, fun b z => absurd z (noA b), e0.bs, e0.bsz, fun b _ _ => noA b, fun b z => absurd z (noA b), e0.funs, e0.frf⟩,
    rfl, e0.bare, Un.kept hk, ⟨_, x.toInCall.ns, fun i y v h1 h2 h3 => ?_⟩, fun y c h => ⟨_, x.cell y c h⟩, e0.hok.fresh (Nat.le_refl _), fun y c h => ?_, fun p hp => absurd (show p ∈ ([] : List (Addr × Obj)) from hp) (by simp), e0.hok.kept hk, ?_⟩
  · exact name_of_addr x.apart (PySem.mem_of_lookup h1) (PySem.mem_of_lookup h2)
  · have hy : scope.names.lookup y = some .cell ∨ scope.names.lookup y = some .free := hy
    rcases hy with hy | hy
    · exact cell_has hy
    · exact absurd rfl (S.nofree _ (PySem.mem_of_lookup hy))
  · exact Nat.le_of_lt (x.above y c (PySem.mem_of_lookup h))
  · have hi : i < vs.length := by
      unfold start at h2
      by_cases hi : i < vs.length
      · exact hi
      · rw [List.getElem?_append_right (by simpa using hi)] at h2
        rw [List.getElem?_replicate] at h2
        split at h2 <;> cases h2
    have ha : vs[i]? = some v := by
      unfold start at h2
      rw [List.getElem?_append_left (by simpa using hi), List.getElem?_map] at h2
      cases e : vs[i]? with
      | none => rw [e] at h2; cases h2
      | some a => rw [e] at h2; cases h2; rfl
    obtain ⟨u, hu, rv⟩ := r.get ha
    have hp : ps[i]? = some y := by
      rw [← S.pre, List.getElem?_take_of_lt (by omega)]; exact h1
    have ndP : ps.Nodup := by rw [← S.pre]; exact S.nd.sublist (List.take_sublist _ _)
    refine ⟨u, rv, ?_⟩
    rcases S.par y (List.mem_of_getElem? hp) with k | k
    · exact .inl ⟨k, bindL_get ndP hp hu k⟩
    · obtain ⟨c, e⟩ := cell_has (n := s.heap.objs.size + 1) k
      refine .inr ⟨.inl k, c, e, ?_⟩
      have q := x.cell y c e
      rw [bindC_get ndP hp hu (by show scope.names.lookup y ≠ _; rw [k]; decide)] at q
      exact q
  · exact e0.hok.fresh (Nat.le_of_lt (x.above y c (PySem.mem_of_lookup h)))
  · unfold start
    show _ = N.length
    rw [List.length_append, List.length_map, List.length_replicate]
    omega

/-- THE RULE: a def (or a method) of the text, by its body. The body's reading t is chosen for each entry; it is run at the parameters' values -/
theorem fn_of {CX : CXT} {P : Program} {w : World} {K : PySem.W.Frag} {mg : Str → Option Value} {base : Heap} {k : Nat} {f : Addr} {name qual : Str} {params : Arguments} {body : List Stmt} {scope : Scope} {dV kV doc pm cdv ct oc : Value} {an od : Option Addr}
    {osl : Array (Option Value)} {N ps : List Str} {sp : Sp} (lk : K.lookup f = some ⟨oc, od, .func (PySem.W.fnOf name qual params body scope dV kV doc pm an cdv ct), osl⟩) (hcd : PySem.W.codeIn K cdv qual = true) (S : FnScope N ps scope)
    (len : ∀ vs H Q E, sp vs H Q E → vs.length = ps.length)
    (hbody : ∀ (A : Around) (outer : List Env) (s : Shared) (H : Hp) (vs : List V) (Q : VK) (E : XK), Room k (A.deeper (envOfC qual scope s.heap.objs.size f cdv)) → sp vs H Q E →
      ∃ t, PSs (cxOf CX P w K mg base N qual scope f cdv A outer s H E) body t ∧ t { nx := fun _ H' => Q .non H', rt := Q } (start N vs) H) :
    FnOk P w K mg base CX (k + 1) f (PySem.W.fnOf name qual params body scope dV kV doc pm an cdv ct) ps sp := by
  refine ⟨len, fun A outer s H args us vs Q E hr e0 hb r hsp => ?_⟩
  have hl := len _ _ _ _ hsp
  have KX : K.In s.heap := e0.mod.kin.keeps fun b o e => (e0.bs b o e).1
  have lim : s.heap.NoLimit := e0.mod.nolimit.keeps fun b o e => (e0.bs b o e).1
  have hkind : ∀ y ∈ ps.zip us, scope.names.lookup y.1 = some .local ∨ (scope.names.lookup y.1 = some .cell ∧ ((cellsFrom (s.heap.objs.size + 1) scope.names []).lookup y.1).isSome = true) := fun ⟨n, v⟩ hy => by
    rcases S.par n (List.of_mem_zip hy).1 with q | q
    · exact .inl q
    · exact .inr ⟨q, PySem.W.cellsFrom_some _ _ _ (.inl q)⟩
  refine codeAny_call_function hr.depth (KX _ _ lk) rfl S.co S.gen rfl (PySem.W.codeRec_of KX hcd) (hb _ _ _ _ ?_)
  refine wpAny_newFunctionEnv_cells S.kind hkind fun env he s1 x => ?_
  subst he
  refine ⟨lim.keeps x.toInCall.keep, codeAny_func ?_⟩
  obtain ⟨t, ht, hq⟩ := hbody A outer s H vs Q E (hr.deeper _) hsp
  have I : Inv (cxOf CX P w K mg base N qual scope f cdv A outer s H E) [] (start N vs) H s1 := inv_start S hr.hd e0 hl r x
  refine wpAny_mono (ht [] s1 (start N vs) H _ I hq) (fun fl s' hs => ?_) fun e s' hs => hs
  have fin : ∀ {σ' : St} {H' : Hp} {v : V} {u : Value}, Inv (cxOf CX P w K mg base N qual scope f cdv A outer s H E) [] σ' H' s' → RelV v u → Q v H' → CE outer P w H s Q u s' :=
    fun {σ' H' v u} J rv q => ⟨v, H', J.os, J.bare, J.base, J.hok, rv, q⟩
  cases fl with
  | ret u =>
    obtain ⟨v, σ', H', J, rv, q⟩ := hs
    exact fin J rv q
  | next =>
    obtain ⟨σ', H', J, q⟩ := hs
    exact fin (v := V.non) (u := Value.none) J rfl q
  | brk =>
    obtain ⟨_, _, _, q⟩ := hs
    exact False.elim q
  | cont =>
    obtain ⟨_, _, _, q⟩ := hs
    exact False.elim q
end L2

namespace L2
open PySem PySem.Spec PyProof.Rows
section
variable {X : Cx} {x : Str} {p pos : Pos} {e : Expr} {es : List Expr} {t : TA} {id T : String} {r : List V → Hp → VK → Prop}

def tCB (r : List V → Hp → VK → Prop) (t : TA) : TE := fun σ H Q => t σ H fun vs H1 => r vs H1 Q
/-- f(e, ..), f a built-in function -/
theorem pe_callB (hc : CallR X (.builtin id) r) (hg : Gl X x) (hm : X.mg x = none) (hv : bootBuiltins x = some (.builtin id)) (ha : PA X (e :: es) t) (hn : x ≠ "__name__" := by decide) (hdb : (x == ("__debug__" : Str)) = false := by decide)
    (he : starEach (e :: es) X.env = (false, eval e X.env) :: starEach es X.env := by rfl) (hpl : (backTo pos (starEach es X.env)).any (·.1) = false := by rfl) : PE X (.Call (.Name x p) (e :: es) [] pos) (tCB r t) := by
  intro pins s σ H Q I h
  refine wpAny_Call_Name_kw (ld_blt I hg hm hv ?_ hn hdb)
  exact PyProof.Rows.callWith_builtin1 (thn (ha pos pins s σ H _ I h) fun us s1 ⟨vs, H1, I1, r1, q1⟩ => hc pins s1 σ H1 vs us Q I1 r1 q1) he hpl
end
end L2

namespace HT
open PySem PyProof.Rows

section
open PySem.SeqAt
open PySem.AutoSeq1 (wpAny_loadPart')
open PySem.MeetsSeq PySem.MeetsSeq2 PySem.MeetsSeq3

end

section
variable {prog : Program} {w : World} {A : Around} {E : Value → Shared → Prop} {s : Shared}

/-- a slice's bound as a place among n (d where it is left out) -/
def sIx (n d : Nat) : Option Int → Nat
  | none => d
  | some v => if v < 0 then (v + (n : Int)).toNat else min v.toNat n
theorem sIx_none (n d : Nat) : sIx n d none = d := rfl
theorem sIx_nat (n d k : Nat) : sIx n d (some (k : Int)) = min k n := by
  show (if (k : Int) < 0 then ((k : Int) + (n : Int)).toNat else min (k : Int).toNat n) = min k n
  rw [if_neg (by omega), Int.toNat_natCast]
end
end HT

namespace L2
open PySem PySem.Spec PyProof.Rows

abbrev TO := St → Hp → (Option Int → Hp → Prop) → Prop
/-- a slice's part (left out, or an int) -/
def PO (X : Cx) (e : Option Expr) (t : TO) : Prop :=
  ∀ (pins : List (Addr × Obj)) (s : Shared) (σ : St) (H : Hp) (Q : Option Int → Hp → Prop), Inv X pins σ H s → t σ H Q →
    wpAny (model X.prog X.w) X.A (evalPart e X.env) (fun u s' => ∃ o H', Inv X pins σ H' s' ∧ IsPart u o ∧ Q o H') X.xe s
def tNoPart : TO := fun _ H Q => Q none H
def tPart (t : TE) : TO := fun σ H Q => t σ H fun x H1 => ∃ i, x = .int i ∧ Q (some i) H1

section
variable {X : Cx} {e : Expr} {te : TE} {lo hi : Option Expr} {tl th : TO} {pos p2 : Pos}

theorem po_none : PO X none tNoPart := by
  intro pins s σ H Q I h
  rw [evalPart_none]
  exact wpAny_pure ⟨none, H, I, .none, h⟩
theorem po_some (h : PE X e te) : PO X (some e) (tPart te) := by
  intro pins s σ H Q I hw
  rw [evalPart_some]
  refine thn (h pins s σ H _ I hw) fun u s1 ⟨x, H1, I1, r1, q1⟩ => ?_
  obtain ⟨i, rfl, q⟩ := q1
  obtain ⟨t, rfl⟩ := r1
  exact ⟨some i, H1, I1, .int i t, q⟩

/-- what a slice of a value is, by values: the slice object stands at sl -/
def SlR (X : Cx) (r : V → Option Int → Option Int → Hp → VK → Prop) : Prop :=
  ∀ (pins : List (Addr × Obj)) (s : Shared) (σ : St) (H : Hp) (x : V) (v vl vu : Value) (lo hi : Option Int) (sl : Addr) (Q : VK), Inv X pins σ H s → RelV x v → s.heap.IsSliceOf sl vl vu .none → IsPart vl lo → IsPart vu hi → r x lo hi H Q →
    ∃ T id, typeLookup (.type T) "__getitem__" = pure (some (.builtin id)) ∧ s.TypeIs v T ∧ wpAny (model X.prog X.w) X.A (getItem v (.ref sl)) (EP X pins σ Q) X.xe s
def tSl (r : V → Option Int → Option Int → Hp → VK → Prop) (te : TE) (tl th : TO) : TE := fun σ H Q => te σ H fun x H1 => tl σ H1 fun l H2 => th σ H2 fun u H3 => r x l u H3 Q
/-- a[lo:hi], any a -/
theorem pe_slice {r : V → Option Int → Option Int → Hp → VK → Prop} (hr : SlR X r) (he : PE X e te) (hl : PO X lo tl) (hu : PO X hi th) : PE X (.Subscript e (.Slice lo hi none p2) pos) (tSl r te tl th) := by
  intro pins s σ H Q I h
  refine Subscript_ (thn (he pins s σ H _ I h) fun v s1 ⟨x, H1, I1, r1, q1⟩ => ?_)
  refine wpAny_Slice (thn (hl pins s1 σ H1 _ I1 q1) fun vl s2 ⟨l, H2, I2, pl, q2⟩ => thn (hu pins s2 σ H2 _ I2 q2) fun vu s3 ⟨u, H3, I3, pu, q3⟩ => ?_)
  rw [evalPart_none]
  refine wpAny_pure ?_
  have I4 : Inv X pins σ H3 { s3 with heap := s3.heap.push { cls := .type "slice", data := .fields #[vl, vu, .none] } } := I3.kept (t' := s3.toks) fun b ob q => Heap.get?_push_of_some _ q
  obtain ⟨T, id, hT, ht, hg⟩ := hr pins { s3 with heap := s3.heap.push { cls := .type "slice", data := .fields #[vl, vu, .none] } } σ H3 x v vl vu l u s3.heap.objs.size Q I4 r1 (Heap.IsSliceOf.new ..) pl pu q3
  show wpAny (model X.prog X.w) X.A (subscriptTail e (.Slice lo hi none p2) v (.ref s3.heap.objs.size)) (EP X pins σ Q) X.xe { s3 with heap := s3.heap.push { cls := .type "slice", data := .fields #[vl, vu, .none] } }
  exact tail_any (ops := [.ref s3.heap.objs.size, v]) ht hT hg (by with_unfolding_all rfl)

/-- the items of xs[lo:hi] -/
def cutV (xs : List V) (lo hi : Option Int) : List V := (xs.drop (HT.sIx xs.length 0 lo)).take (HT.sIx xs.length xs.length hi - HT.sIx xs.length 0 lo)
theorem cutV_length (xs : List V) (lo hi : Option Int) : (cutV xs lo hi).length ≤ xs.length := by
  unfold cutV
  rw [List.length_take, List.length_drop]
  omega
end
end L2

namespace L2
open PySem PySem.Spec PyProof.Rows

/-- the place that an index of any sign means -/
def ixN (n : Nat) (i : Int) : Option Nat := if 0 ≤ i then (if i < n then some i.toNat else none) else if -(n : Int) ≤ i then some (i + n).toNat else none
def atI {α : Type} (xs : List α) (i : Int) : Option α := (ixN xs.length i).bind fun j => xs[j]?
theorem ixN_seq {n : Nat} {i : Int} {j : Nat} (h : ixN n i = some j) : seqIndex? i n = some j ∧ j < n ∧ -(n : Int) ≤ i ∧ i < n := by
  unfold ixN at h
  by_cases h0 : 0 ≤ i
  · rw [if_pos h0] at h
    by_cases h1 : i < n
    · rw [if_pos h1] at h
      have e : i.toNat = j := Option.some.inj h
      exact ⟨by rw [seqIndex_of h0 h1, e], by omega, by omega, h1⟩
    · rw [if_neg h1] at h; cases h
  · rw [if_neg h0] at h
    by_cases h1 : -(n : Int) ≤ i
    · rw [if_pos h1] at h
      have e : (i + n).toNat = j := Option.some.inj h
      exact ⟨by rw [seqIndex_neg (by omega) h1, e], by omega, h1, by omega⟩
    · rw [if_neg h1] at h; cases h
theorem atI_get {α : Type} {xs : List α} {i : Int} {v : α} (h : atI xs i = some v) : ∃ j, seqIndex? i xs.length = some j ∧ xs[j]? = some v ∧ j < xs.length ∧ -(xs.length : Int) ≤ i ∧ i < xs.length := by
  unfold atI at h
  cases e : ixN xs.length i with
  | none => rw [e] at h; cases h
  | some j =>
    rw [e] at h
    obtain ⟨h1, h2, h3, h4⟩ := ixN_seq e
    exact ⟨j, h1, h, h2, h3, h4⟩
theorem atI_nat {α : Type} {xs : List α} {j : Nat} {v : α} (h : xs[j]? = some v) : atI xs (j : Int) = some v := by
  have hj : j < xs.length := (List.getElem?_eq_some_iff.mp h).1
  have e : ixN xs.length (j : Int) = some j := by
    unfold ixN
    rw [if_pos (by omega), if_pos (by omega)]; simp
  unfold atI; rw [e]; exact h
/-- what stands as an index of a plain subscript -/
def PlainIx (b : Expr) : Prop := ∀ o i, subscripted b false o i = operate [o, i] (getItem o i)
/-- a subscript by values -/
def IxR (X : Cx) (r : R2) : Prop :=
  ∀ (value slice : Expr) (pins : List (Addr × Obj)) (s : Shared) (σ : St) (H : Hp) (x y : V) (v u : Value) (Q : VK), Inv X pins σ H s → RelV x v → RelV y u → r x y H Q →
    subscripted slice false v u = operate [v, u] (getItem v u) → wpAny (model X.prog X.w) X.A (subscriptTail value slice v u) (EP X pins σ Q) X.xe s
/-- a call of a builtin's method by values: the receiver, the arguments -/
def MtR (X : Cx) (id : String) (r : V → List V → Hp → VK → Prop) : Prop :=
  ∀ (pins : List (Addr × Obj)) (s : Shared) (σ : St) (H : Hp) (x : V) (xs : List V) (v : Value) (us : List Value) (Q : VK), Inv X pins σ H s → RelV x v → Vals xs us → r x xs H Q →
    wpAny (model X.prog X.w) X.A (call (.builtin id) (v :: us)) (EP X pins σ Q) X.xe s
section
variable {X : Cx} {a b : Expr} {ta tb : TE} {pos : Pos}
theorem IxR.or {r r' : R2} (h : IxR X r) (h' : IxR X r') : IxR X (fun x y H Q => r x y H Q ∨ r' x y H Q) := by
  intro value slice pins s σ H x y v u Q I rx ry q hs
  rcases q with q | q
  · exact h value slice pins s σ H x y v u Q I rx ry q hs
  · exact h' value slice pins s σ H x y v u Q I rx ry q hs
/-- a[b] -/
theorem pe_ix {r : R2} (hr : IxR X r) (ha : PE X a ta) (hb : PE X b tb) (hs : PlainIx b) : PE X (.Subscript a b pos) (tOp r ta tb) := by
  intro pins s σ H Q I h
  exact Subscript_ (binT ha hb I h fun v u s2 x y H2 I2 rx ry q => hr a b pins s2 σ H2 x y v u Q I2 rx ry q (hs _ _))

def rIxL (K : PySem.W.Frag) : R2 := fun x y H Q => ∃ p xs i v, x = .ref p ∧ y = .int i ∧ SqL K H p xs ∧ atI xs i = some v ∧ Q v H
def rIxT (K : PySem.W.Frag) : R2 := fun x y H Q => ∃ p xs i v, x = .ref p ∧ y = .int i ∧ SqT K H p xs ∧ atI xs i = some v ∧ Q v H
def rIxS : R2 := fun x y H Q => ∃ z i c, x = .str z ∧ y = .int i ∧ z.length ≤ sizeLine ∧ atI z.cps.toList i = some c ∧ Q (.str ⟨#[c]⟩) H
theorem ix_list : IxR X (rIxL X.K) := by
  intro value slice pins s σ H x y v u Q I rx ry h hs
  obtain ⟨p, xs, i, z, rfl, rfl, hq, he, q⟩ := h
  cases rx
  obtain ⟨t, rfl⟩ := ry
  obtain ⟨its, r, pl, hz⟩ := I.list hq
  obtain ⟨j, h1, h2, h3, h4, h5⟩ := atI_get he
  obtain ⟨w, ew, rw'⟩ := r.get h2
  have hl := r.length
  have hn := line63
  have fin : EP X pins σ Q w s := ⟨z, H, I, rw', q⟩
  by_cases h0 : 0 ≤ i
  · have hj : i.toNat = j := by
      rw [seqIndex_of h0 h5] at h1
      exact Option.some.inj h1
    exact item_listR pl.isList h0 (by omega) (by rw [hj]; simpa using ew) fin hs
  · have hj : (i + (its.toArray.size : Int)).toNat = j := by
      rw [seqIndex_neg (by omega) h4] at h1
      rw [List.size_toArray, ← hl]
      exact Option.some.inj h1
    exact subscriptTail_builtinR (x := w) pl.isList.typeIs slot_list_getitem.lookup
      (wpAny_getItem_list_neg (Q := fun r s' => r = w ∧ EP X pins σ Q r s') pl.isList (by omega) (by rw [List.size_toArray] <;> omega) (by omega) (by rw [hj]; simpa using ew) ⟨rfl, fin⟩) hs
theorem ix_tup : IxR X (rIxT X.K) := by
  intro value slice pins s σ H x y v u Q I rx ry h hs
  obtain ⟨p, xs, i, z, rfl, rfl, hq, he, q⟩ := h
  cases rx
  obtain ⟨t, rfl⟩ := ry
  obtain ⟨its, r, pl, hz⟩ := I.tuple hq
  obtain ⟨j, h1, h2, h3, h4, h5⟩ := atI_get he
  obtain ⟨w, ew, rw'⟩ := r.get h2
  have hl := r.length
  have hn := line63
  have fin : EP X pins σ Q w s := ⟨z, H, I, rw', q⟩
  exact subscriptTail_builtinR (x := w) pl.typeIs slot_tuple_getitem.lookup
    (getItem_tuple (j := j) (Q := fun r s' => r = w ∧ EP X pins σ Q r s') pl (by omega) (by omega) (by rw [List.size_toArray, ← hl]; exact h1) (by simpa using ew) ⟨rfl, fin⟩) hs
theorem ix_str : IxR X rIxS := by
  intro value slice pins s σ H x y v u Q I rx ry h hs
  obtain ⟨z, i, c, rfl, rfl, hz, he, q⟩ := h
  obtain ⟨t, rfl⟩ := rx
  obtain ⟨t', rfl⟩ := ry
  obtain ⟨j, h1, h2, h3, h4, h5⟩ := atI_get he
  have hl : z.cps.toList.length = z.length := by simp [Str.length]
  rw [hl] at h1 h4 h5
  have hn := line63
  exact tail_any (typeIs_str s z t) slot_str_getitem.lookup (getItem_str (c := c) (by
    have e1 : decide (i < -(2 ^ 63 : Int)) = false := decide_eq_false (by omega)
    have e2 : decide (i ≥ 2 ^ 63) = false := decide_eq_false (by omega)
    rw [e1, e2, Bool.or_false]) (by rw [h1]; simpa using h2) ⟨.str ⟨#[c]⟩, H, I.tok _, ⟨_, rfl⟩, q⟩) hs
/-- list, tuple or str -/
def rIx (K : PySem.W.Frag) : R2 := fun x y H Q => rIxL K x y H Q ∨ rIxT K x y H Q ∨ rIxS x y H Q
theorem ix_seq : IxR X (rIx X.K) := ix_list.or (ix_tup.or ix_str)

theorem slice_bounds (lo hi : Option Int) (n : Nat) : (sliceBounds lo hi none n).1 = ((HT.sIx n 0 lo : Nat) : Int) ∧ (sliceBounds lo hi none n).2.1 = ((HT.sIx n n hi : Nat) : Int) ∧ (sliceBounds lo hi none n).2.2 = 1 := by
  refine ⟨?_, ?_, rfl⟩
  · cases lo with
    | none => simp [sliceBounds, HT.sIx]
    | some i =>
      simp only [sliceBounds, HT.sIx, Option.getD_none, show (1 : Int) > 0 by decide, if_true]
      by_cases h : i < 0
      · simp only [h, if_true] <;> omega
      · simp only [h, if_false] <;> omega
  · cases hi with
    | none => simp [sliceBounds, HT.sIx]
    | some i =>
      simp only [sliceBounds, HT.sIx, Option.getD_none, show (1 : Int) > 0 by decide, if_true]
      by_cases h : i < 0
      · simp only [h, if_true] <;> omega
      · simp only [h, if_false] <;> omega
theorem slicePick_cut (its : List Value) (lo hi : Option Int) : slicePick its.toArray lo hi none = ((its.drop (HT.sIx its.length 0 lo)).take (HT.sIx its.length its.length hi - HT.sIx its.length 0 lo)).toArray := by
  obtain ⟨h1, h2, h3⟩ := slice_bounds lo hi its.toArray.size
  unfold slicePick
  rw [h1, h2, h3]
  simp only [sliceRange_one, pick_run, List.size_toArray] <;> rfl
/-- xs[lo:hi] of a list: a new list -/
def rSlL (K : PySem.W.Frag) : V → Option Int → Option Int → Hp → VK → Prop := fun x lo hi H Q => ∃ a xs, x = .ref a ∧ SqL K H a xs ∧ ∀ p, H p = none → Q (.ref p) (upd H p (.lst (cutV xs lo hi)))
theorem sl_list : SlR X (rSlL X.K) := by
  intro pins s σ H x v vl vu lo hi sl Q I rx hs pl pu h
  obtain ⟨a, xs, rfl, hx, q⟩ := h
  cases rx
  obtain ⟨its, r, ht, hz⟩ := I.list hx
  have hlen := r.length
  refine ⟨"list", _, slot_list_getitem.lookup, ht.isList.typeIs, ?_⟩
  refine wpAny_getItem_list_slice ht.isList hs pl pu .none (by simp) ?_ (by rw [List.size_toArray] <;> omega)
  rw [slicePick_cut, ← hlen]
  refine ⟨.ref s.heap.objs.size, _, I.laid (t' := s.toks) (o := .lst (cutV xs lo hi)) (fun b ob q => Heap.get?_push_of_some _ q) (Nat.le_refl _) ?_, rfl, q _ (I.hok.fresh (Nat.le_refl _))⟩
  exact ⟨Nat.le_trans (cutV_length xs lo hi) hz, _, 0, (r.drop (HT.sIx xs.length 0 lo)).take (HT.sIx xs.length xs.length hi - HT.sIx xs.length 0 lo), Heap.get?_push_size _ rfl⟩

theorem call_len_seq : CallR X (.builtin "len") (fun xs H Q => ∃ p ys, xs = [.ref p] ∧ (SqL X.K H p ys ∨ SqT X.K H p ys) ∧ Q (.int ys.length) H) := by
  intro pins s σ H xs us Q I r h
  obtain ⟨p, ys, rfl, hq, q⟩ := h
  obtain ⟨u, rfl, rx⟩ := vals1 r
  cases rx
  have hn := line63
  rcases hq with hq | hq
  · obtain ⟨its, r', pl, hz⟩ := I.list hq
    have hlen := r'.length
    exact Calls.call_len_list pl.isList (by simp only [List.size_toArray] <;> omega) ⟨.int ys.length, H, I.tok _, ⟨s.toks + 1, by rw [List.size_toArray, hlen]⟩, q⟩
  · obtain ⟨its, r', pl, hz⟩ := I.tuple hq
    have hlen := r'.length
    exact len_tuple pl (by simp only [List.size_toArray] <;> omega) ⟨.int ys.length, H, I.tok _, ⟨s.toks + 1, by rw [List.size_toArray, hlen]⟩, q⟩
/-- the value is of that builtin type -/
def tyV (K : PySem.W.Frag) (T : String) (x : V) (H : Hp) : Prop := match x with
  | .str _ => T = "str"
  | .int _ => T = "int"
  | .ref p => (T = "list" ∧ ∃ xs, SqL K H p xs) ∨ (T = "tuple" ∧ ∃ o, K.lookup p = some o ∧ o.cls = .type "tuple" ∧ o.dict = none) ∨
      (T = "dict" ∧ ((∃ kvs, H p = some (.dK kvs)) ∨ ∃ kvs, H p = some (.dT kvs))) ∨ (T = "set" ∧ ∃ S n, H p = some (.set S n))
  | _ => False
theorem tyV_is {pins : List (Addr × Obj)} {σ : St} {H : Hp} {s : Shared} {T : String} {x : V} {v : Value} (I : Inv X pins σ H s) (r : RelV x v) (ty : tyV X.K T x H) :
    s.TypeIs v T ∧ ∀ a, v = .ref a → ∃ ob, s.heap.get? a = some ob ∧ ob.dict = none := by
  cases x with
  | str z =>
    obtain ⟨t, rfl⟩ := r
    cases (show T = "str" from ty)
    exact ⟨typeIs_str s z t, fun _ e => nomatch e⟩
  | int i =>
    obtain ⟨t, rfl⟩ := r
    cases (show T = "int" from ty)
    exact ⟨typeIs_int s i t, fun _ e => nomatch e⟩
  | ref p =>
    cases r
    rcases ty with ⟨rfl, xs, hq⟩ | ⟨rfl, o, hk, hc, hd⟩ | ⟨rfl, hk⟩ | ⟨rfl, S, n, hk⟩
    · obtain ⟨its, _, pl, _⟩ := I.list hq
      refine ⟨pl.isList.typeIs, fun a e => ?_⟩
      cases e
      obtain ⟨o, n, e, c, hd, _⟩ := pl
      exact ⟨o, e, hd⟩
    · refine ⟨⟨o, I.kIn p o hk, hc⟩, fun a e => ?_⟩
      cases e
      exact ⟨o, I.kIn _ o hk, hd⟩
    · have z : ∃ o, s.heap.get? p = some o ∧ o.ExactDict := by
        rcases hk with ⟨kvs, hk⟩ | ⟨kvs, hk⟩
        · obtain ⟨_, _, _, _, o, _, _, e, ex, _⟩ := I.hok p _ hk
          exact ⟨o, e, ex⟩
        · obtain ⟨_, _, _, _, o, _, _, e, ex, _⟩ := I.hok p _ hk
          exact ⟨o, e, ex⟩
      obtain ⟨o, e, ex⟩ := z
      refine ⟨⟨o, e, ex.1⟩, fun a e2 => ?_⟩
      cases e2
      exact ⟨o, e, ex.2.1⟩
    · obtain ⟨o, _, _, _, e, ex, _⟩ := I.hok p _ hk
      refine ⟨⟨o, e, ex.1⟩, fun a e2 => ?_⟩
      cases e2
      exact ⟨o, e, ex.2.1⟩
  | _ => exact False.elim ty
def tBM (K : PySem.W.Frag) (T : String) (r : V → List V → Hp → VK → Prop) (to : TE) (t : TA) : TE := fun σ H Q => to σ H fun x H1 => tyV K T x H1 ∧ t σ H1 fun xs H2 => r x xs H2 Q
variable {o e : Expr} {es : List Expr} {to : TE} {t : TA} {name : Str} {apos cpos : Pos} {T id : String} {r : V → List V → Hp → VK → Prop}
theorem pe_bm (pa : PlainAttrs T) (slot : Slot T name id) (hty : typeOf (.builtin id) = pure (.type "method_descriptor")) (hm : MtR X id r) (ho : PE X o to) (ha : PA X (e :: es) t)
    (hbase : attributeBase o name X.env (eval o X.env) = eval o X.env := by rfl)
    (hfew : ((backTo cpos (starEach (e :: es) X.env)).all (fun x => !x.1) && (backToKw cpos (keywordEach [] X.env)).all (fun x => x.1.isSome)
      && decide ((e :: es).length + ([] : List Keyword).length + (if ([] : List Keyword).isEmpty then 0 else 1) < 30)) = true := by rfl)
    (hline : (apos.endLine == cpos.line) = true := by rfl) (hs : starEach (e :: es) X.env = (false, eval e X.env) :: starEach es X.env := by rfl) (hplain : (backTo cpos (starEach es X.env)).any (·.1) = false := by rfl) :
    PE X (.Call (.Attribute o name apos) (e :: es) [] cpos) (tBM X.K T r to t) := by
  intro pins s σ H Q I h
  refine wpAny_Call_method_late hbase hfew hline rfl (thn (ho pins s σ H _ I h) fun v s1 ⟨x, H1, I1, r1, ty, q1⟩ => ?_)
  obtain ⟨h1, h2⟩ := tyV_is I1 r1 ty
  refine ⟨T, id, pa, slot, hty, h1, h2, ?_⟩
  have hA := ha cpos pins s1 σ H1 _ I1 q1
  rw [hs] at hA ⊢
  refine Calls.callWith_builtin (by show (false || (backTo cpos (starEach es X.env)).any (·.1)) = false; rw [hplain] <;> rfl) (Calls.evalArgs_plain ?_)
  exact thn hA fun us s2 ⟨vs, H2, I2, r2, q2⟩ => hm pins s2 σ H2 x vs v us Q I2 r1 r2 q2
end
end L2

namespace L2
open PySem PySem.Spec PyProof.Rows

def MtM (X : Cx) (id : String) (r : V → List V → Hp → VK → Prop) : Prop :=
  ∀ (pins : List (Addr × Obj)) (s : Shared) (σ : St) (H : Hp) (x : V) (xs : List V) (v : Value) (us : List Value) (Q : VK), Inv X pins σ H s → RelV x v → Vals xs us → r x xs H Q →
    wpAny (model X.prog X.w) X.A (call (.builtin id) (v :: us)) (EP X pins σ Q) X.xe s

theorem Vals.one : ∀ {x : V} {us : List Value}, Vals [x] us → ∃ u, us = [u] ∧ RelV x u
  | _, _, .cons r .nil => ⟨_, rfl, r⟩
theorem Vals.rep {xs : List V} {us : List Value} (h : Vals xs us) : ∀ k : Nat, Vals (List.replicate k xs).flatten (List.replicate k us).flatten
  | 0 => .nil
  | k + 1 => by
    rw [List.replicate_succ, List.replicate_succ, List.flatten_cons, List.flatten_cons]
    exact Vals.append h (Vals.rep h k)
theorem foldl_rep (its : List Value) : ∀ (k : Nat) (acc : List Value),
    List.foldl (fun x1 x2 => x1 ++ x2) acc.toArray (List.replicate k its.toArray) = (acc ++ (List.replicate k its).flatten).toArray
  | 0, acc => by simp
  | k + 1, acc => by
    have e : acc.toArray ++ its.toArray = (acc ++ its).toArray := by simp
    have e2 : (acc ++ its) ++ (List.replicate k its).flatten = acc ++ (List.replicate (k + 1) its).flatten := by
      rw [List.replicate_succ, List.flatten_cons, List.append_assoc]
    rw [← e2, ← foldl_rep its k (acc ++ its), ← e, List.replicate_succ, List.foldl_cons]

section
variable {X : Cx} {pins : List (Addr × Obj)} {σ : St} {H : Hp} {s : Shared} {l b : Addr} {xs ys zs : List V}

theorem Inv.lset {its its' : List Value} {n : Nat} {f : Array Value → Array Value} {t' : Nat} (I : Inv X pins σ H s) (hH : H l = some (.lst xs))
    (e : s.heap.get? l = some { cls := .type "list", data := .seq its.toArray n }) (hf : f its.toArray = its'.toArray) (hv : Vals ys its') (hz : ys.length ≤ sizeLine) :
    Inv X pins σ (upd H l (.lst ys)) { s with heap := s.heap.update l (Obj.mapSeq f), toks := t' } := by
  have q := PySem.IsL.update e f
  rw [hf] at q
  refine I.write (x := l) (e := l) (by rw [hH]; exact trivial) (.inl rfl) (fun b' u hb hu => (Heap.get?_update_other s.heap (Obj.mapSeq f) (Ne.symm hb)).trans hu) ⟨_, q⟩ ?_
  exact ⟨hz, its', _, hv, q⟩
theorem Inv.lnew {its : List Value} {t' : Nat} (I : Inv X pins σ H s) (hv : Vals ys its) (hz : ys.length ≤ sizeLine) :
    Inv X pins σ (upd H s.heap.objs.size (.lst ys)) { s with heap := s.heap.push { cls := .type "list", data := .seq its.toArray }, toks := t' } :=
  I.laid (fun _ _ q => Heap.get?_push_of_some _ q) (Nat.le_refl _) ⟨hz, its, 0, hv, Heap.get?_push_size _ rfl⟩
theorem Inv.fresh (I : Inv X pins σ H s) : H s.heap.objs.size = none := I.hok.fresh (Nat.le_refl _)
theorem Inv.lstM (I : Inv X pins σ H s) (hH : H l = some (.lst xs)) : xs.length ≤ sizeLine ∧ ∃ (its : List Value) (n : Nat), Vals xs its ∧ xs.length = its.length ∧ s.heap.get? l = some { cls := .type "list", data := .seq its.toArray n } := by
  obtain ⟨z, its, n, r, e⟩ := I.hok l _ hH
  exact ⟨z, its, n, r, r.length, e⟩

theorem notLongL {n : Nat} (h : n ≤ sizeLine) : Builtin.List.listTooLong n = false := by
  unfold Builtin.List.listTooLong
  exact decide_eq_false (by omega)
end

section
variable {X : Cx}

def rAppend : V → List V → Hp → VK → Prop := fun x vs H Q => ∃ l xs y, x = .ref l ∧ vs = [y] ∧ H l = some (.lst xs) ∧ xs.length < sizeLine ∧ Q .non (upd H l (.lst (xs ++ [y])))
theorem mt_append : MtM X "list.append" rAppend := by
  intro pins s σ H x vs v us Q I rx rv h
  obtain ⟨l, xs, y, rfl, rfl, hH, hz, q⟩ := h
  cases rx
  obtain ⟨u, rfl, ru⟩ := rv.one
  obtain ⟨z, its, n, r, hl, e⟩ := I.lstM hH
  refine call_meets F.slot_list_append ⟨_, e, rfl⟩ F.entry_list_append (F.args_list_append_2 _ _) (PySem.list_append l its.toArray n u (by rw [List.size_toArray]; omega)) ⟨e, ?_⟩
  refine ⟨.non, _, I.lset (its' := its ++ [u]) hH e (by simp) (r.append (.cons ru .nil)) ?_, rfl, q⟩
  rw [List.length_append, List.length_singleton]
  omega

def rExtend : V → List V → Hp → VK → Prop := fun x vs H Q => ∃ l b xs zs, x = .ref l ∧ vs = [.ref b] ∧ H l = some (.lst xs) ∧ H b = some (.lst zs) ∧ xs.length + zs.length ≤ sizeLine ∧ Q .non (upd H l (.lst (xs ++ zs)))
theorem mt_extend : MtM X "list.extend" rExtend := by
  intro pins s σ H x vs v us Q I rx rv h
  obtain ⟨l, b, xs, zs, rfl, rfl, hH, hB, hz, q⟩ := h
  cases rx
  obtain ⟨u, rfl, ru⟩ := rv.one
  cases ru
  obtain ⟨z, its, n, r, hl, e⟩ := I.lstM hH
  obtain ⟨z2, its2, n2, r2, hl2, e2⟩ := I.lstM hB
  have hsz : its.toArray.size + its2.toArray.size ≤ sizeLine := by rw [List.size_toArray, List.size_toArray]; omega
  have hlong : ¬ (!its.toArray.isEmpty && Builtin.List.listTooLong (its.toArray.size + its2.toArray.size)) = true := by
    rw [notLongL hsz, Bool.and_false]
    exact Bool.false_ne_true
  refine call_meets F.slot_list_extend ⟨_, e, rfl⟩ F.entry_list_extend (F.args_list_extend_2 _ _)
    (AutoSeq1.list_extend_list_list_0 l its.toArray n b its2.toArray n2 hlong (by rw [List.size_toArray]; omega) (by omega)) ⟨e, e2, ?_⟩
  refine ⟨.non, _, I.lset (its' := its ++ its2) hH e (by simp) (r.append r2) ?_, rfl, q⟩
  rw [List.length_append]
  omega

def rCat : R2 := fun x y H Q => ∃ l b xs zs, x = .ref l ∧ y = .ref b ∧ H l = some (.lst xs) ∧ H b = some (.lst zs) ∧ xs.length + zs.length ≤ sizeLine ∧ ∀ p, H p = none → Q (.ref p) (upd H p (.lst (xs ++ zs)))
theorem op_cat : OpR X (binaryOp .Add) rCat := by
  intro pins s σ H x y v u Q I rx ry h
  obtain ⟨l, b, xs, zs, rfl, rfl, hH, hB, hz, q⟩ := h
  cases rx
  cases ry
  obtain ⟨z, its, n, r, hl, e⟩ := I.lstM hH
  obtain ⟨z2, its2, n2, r2, hl2, e2⟩ := I.lstM hB
  refine PySem.P.add_list e e2 ?_ (by rw [List.size_toArray, List.size_toArray]; omega)
  have ea : its.toArray ++ its2.toArray = (its ++ its2).toArray := by simp
  rw [ea]
  exact ⟨.ref _, _, I.lnew (t' := s.toks) (r.append r2) (by rw [List.length_append]; omega), rfl, q _ I.fresh⟩
/-- a list times an int (a negative one is nothing) -/
def rRep : R2 := fun x y H Q => ∃ l k xs, x = .ref l ∧ y = .int k ∧ H l = some (.lst xs) ∧ -(2 ^ 63) ≤ k ∧ k < 2 ^ 63 ∧ xs.length * k.toNat ≤ sizeLine ∧
  ∀ p, H p = none → Q (.ref p) (upd H p (.lst (List.replicate k.toNat xs).flatten))
theorem len_rep {α : Type} (xs : List α) (k : Nat) : (List.replicate k xs).flatten.length = k * xs.length := by
  induction k with
  | zero => simp
  | succ k ih => rw [List.replicate_succ, List.flatten_cons, List.length_append, ih, Nat.succ_mul, Nat.add_comm]
theorem op_rep : OpR X (binaryOp .Mult) rRep := by
  intro pins s σ H x y v u Q I rx ry h
  obtain ⟨l, k, xs, rfl, rfl, hH, h1, h2, hz, q⟩ := h
  cases rx
  obtain ⟨t, rfl⟩ := ry
  obtain ⟨z, its, n, r, hl, e⟩ := I.lstM hH
  have hlen : its.toArray.size * k.toNat ≤ sizeLine := by rw [List.size_toArray, ← hl]; exact hz
  have hcap : ¬ its.toArray.size * k.toNat > (2 ^ 63 - 1) / 8 := by
    have : (sizeLine : Nat) ≤ (2 ^ 63 - 1) / 8 := by decide
    omega
  have hfit : ¬ (!Builtin.List.listFitsIndex k) = true := by
    rw [fitsIndex_both h1 h2]
    exact Bool.false_ne_true
  have hlong : ¬ Builtin.List.listTooLong (its.toArray.size * k.toNat) = true := by
    rw [notLongL hlen]
    exact Bool.false_ne_true
  have hnew : List.foldl (fun x1 x2 => x1 ++ x2) #[] (List.replicate (if its.toArray.isEmpty = true then 0 else k.toNat) its.toArray) = (List.replicate k.toNat its).flatten.toArray := by
    have f0 : ∀ m : Nat, List.foldl (fun x1 x2 => x1 ++ x2) #[] (List.replicate m its.toArray) = (List.replicate m its).flatten.toArray := fun m => by
      have := foldl_rep its m []
      rw [List.nil_append] at this
      exact this
    rw [f0]
    cases its with
    | nil => simp
    | cons a r' => rw [if_neg (by simp)]
  refine wpAny_binaryOp_repeat_ref (T := "list") (U := "int") (by decide) ⟨_, e, rfl⟩ (fun s' => typeIs_int s' k t) noFill_list_mul F.fills_int_mul F.slot_int_rmul repeat_list F.slot_int_index.lookup
    (call_meets F.slot_int_rmul (typeIs_int s k t) F.entry_int_rmul (F.args_int_rmul_2 _ _) (int___rmul___int_list k t l its.toArray n)
      ⟨e, rfl, ⟨_, e, rfl⟩, call_meets F.slot_list_mul ⟨_, e, rfl⟩ F.entry_list_mul (F.args_list_mul_2 _ _) (AutoListH.list___mul___list_int_3 l its.toArray n k t hfit hcap hlong) ⟨e, ?_⟩⟩)
  rw [hnew]
  exact ⟨.ref _, _, I.lnew (t' := s.toks) (r.rep k.toNat) (by rw [len_rep, Nat.mul_comm]; exact hz), rfl, q _ I.fresh⟩

end

section
variable {prog : Program} {w : World} {A : Around} {E : Value → Shared → Prop} {s : Shared}
end

section
variable {X : Cx}
end
end L2

namespace L2
open PySem PySem.Spec PyProof.Rows

section
variable {prog : Program} {w : World} {A : Around} {E : Value → Shared → Prop} {s : Shared} {l : Addr} {its : List Value} {ns : List Int} {Q : Value → Shared → Prop}
end

section
variable {X : Cx}
end

section
variable {X : Cx}
end

section
variable {X : Cx}
end

section
variable {X : Cx}
end

mutual
inductive Dp (K : PySem.W.Frag) (H : Hp) : V → PyData → Prop
  | non : Dp K H .non .none
  | bl (b : Bool) : Dp K H (.bl b) (.bool b)
  | int (i : Int) : Dp K H (.int i) (.int i)
  | str (x : Str) : Dp K H (.str x) (.str x)
  | lst {a : Addr} {xs : List V} {ds : List PyData} : SqL K H a xs → DpAll K H xs ds → Dp K H (.ref a) (.list ds)
  | tup {a : Addr} {xs : List V} {ds : List PyData} : SqT K H a xs → DpAll K H xs ds → Dp K H (.ref a) (.tuple ds)
inductive DpAll (K : PySem.W.Frag) (H : Hp) : List V → List PyData → Prop
  | nil : DpAll K H [] []
  | cons {v : V} {vs : List V} {d : PyData} {ds : List PyData} : Dp K H v d → DpAll K H vs ds → DpAll K H (v :: vs) (d :: ds)
end
section
variable {X : Cx} {pins : List (Addr × Obj)} {σ : St} {H : Hp} {s : Shared}
mutual
theorem Dp.reads (I : Inv X pins σ H s) : ∀ (d : PyData) (v : V) (u : Value), Dp X.K H v d → RelV v u → ∃ as, Reads s.heap u d as
  | .none, _, _, h, r => by
    cases h
    cases r
    exact ⟨_, Reads.none⟩
  | .bool b, _, _, h, r => by
    cases h
    cases r
    exact ⟨_, Reads.bool b⟩
  | .int i, _, _, h, r => by
    cases h
    obtain ⟨t, rfl⟩ := r
    exact ⟨_, Reads.int i t⟩
  | .str x, _, _, h, r => by
    cases h
    obtain ⟨t, rfl⟩ := r
    exact ⟨_, Reads.str x t⟩
  | .list ds, _, _, h, r => by
    cases h with
    | lst hs ha =>
      cases r
      obtain ⟨its, rv, ⟨o, n, ho, hc, _, hd⟩, _⟩ := I.list hs
      obtain ⟨as, hr⟩ := Dp.readsAll I ds _ its ha rv
      exact ⟨_, Reads.list ho hc hd hr⟩
  | .tuple ds, _, _, h, r => by
    cases h with
    | tup hs ha =>
      cases r
      obtain ⟨its, rv, ⟨o, ho, hc, n, hd⟩, _⟩ := I.tuple hs
      obtain ⟨as, hr⟩ := Dp.readsAll I ds _ its ha rv
      exact ⟨_, Reads.tuple ho hc hd hr⟩
  | .dict _, _, _, h, _ => by cases h
theorem Dp.readsAll (I : Inv X pins σ H s) : ∀ (ds : List PyData) (vs : List V) (us : List Value), DpAll X.K H vs ds → Vals vs us → ∃ as, ReadsAll s.heap us ds as
  | [], _, _, h, r => by
    cases h
    cases r
    exact ⟨_, ReadsAll.nil⟩
  | d :: ds, _, _, h, r => by
    cases h with
    | cons h1 h2 =>
      cases r with
      | cons r1 r2 =>
        obtain ⟨as, q1⟩ := Dp.reads I d _ _ h1 r1
        obtain ⟨bs, q2⟩ := Dp.readsAll I ds _ _ h2 r2
        exact ⟨_, ReadsAll.cons q1 q2⟩
end
end
section
variable {X : Cx}
def rEqD (K : PySem.W.Frag) : R2 := fun x y H Q => ∃ d e, Dp K H x d ∧ Dp K H y e ∧ SeqAt.shaped d = true ∧ SeqAt.shaped e = true ∧ Q (.bl (PyData.eqv d e)) H
def rNeD (K : PySem.W.Frag) : R2 := fun x y H Q => ∃ d e, Dp K H x d ∧ Dp K H y e ∧ SeqAt.shaped d = true ∧ SeqAt.shaped e = true ∧ Q (.bl (!PyData.eqv d e)) H
theorem op_eqD (hu : X.A.units + 64 < cLine) : OpR X (compareOp .Eq) (rEqD X.K) := by
  intro pins s σ H x y v u Q I rx ry h
  obtain ⟨d, e, hd, he, sd, se, q⟩ := h
  obtain ⟨as, r1⟩ := Dp.reads I d x v hd rx
  obtain ⟨bs, r2⟩ := Dp.reads I e y u he ry
  exact SeqAt.compareEq_shaped r1 r2 sd se hu ⟨.bl _, H, I, rfl, q⟩
theorem op_neD (hu : X.A.units + 64 < cLine) : OpR X (compareOp .NotEq) (rNeD X.K) := by
  intro pins s σ H x y v u Q I rx ry h
  obtain ⟨d, e, hd, he, sd, se, q⟩ := h
  obtain ⟨as, r1⟩ := Dp.reads I d x v hd rx
  obtain ⟨bs, r2⟩ := Dp.reads I e y u he ry
  exact SeqAt.compareNe_shaped r1 r2 sd se hu ⟨.bl _, H, I, rfl, q⟩
end
end L2

namespace L2
open PySem PySem.Spec PyProof.Rows
abbrev CellAt (h : Heap) (c : Addr) (v : Option Value) : Prop := h.IsCell c v
def relS (scope sc : Scope) : Scope :=
  { scope with names := scope.names.map fun (n, k) => if (k == .free && sc.kind == .function && sc.names.lookup n == some .cell) then (n, .cell) else (n, k) }

def cloFrom (cells : List (Str × Addr)) : List (Str × NameKind) → List (Str × Addr) → List (Str × Addr)
  | [], acc => acc
  | (n, k) :: r, acc => if k == .free then cloFrom cells r ((n, (cells.lookup n).getD 0) :: acc) else cloFrom cells r acc

theorem closure_loop (env : Env) (f : Str × NameKind → List (Str × Addr) → Sem (ForInStep (List (Str × Addr))))
    (hf : ∀ n k c, f (n, k) c = if k == .free then (do let a ← cellOf env n; pure (.yield ((n, a) :: c))) else pure (.yield c)) :
    ∀ (names : List (Str × NameKind)) (acc : List (Str × Addr)), (∀ y ∈ names, y.2 = .free → ∃ c, env.cells.lookup y.1 = some c) → forIn names acc f = pure (cloFrom env.cells names acc)
  | [], acc, _ => by rw [List.forIn_nil]; rfl
  | (n, k) :: r, acc, h => by
    rw [List.forIn_cons, hf]
    have ih := fun acc => closure_loop env f hf r acc fun y hy => h y (List.mem_cons_of_mem _ hy)
    unfold cloFrom
    by_cases hk : (k == NameKind.free) = true
    · rw [if_pos hk, if_pos hk]
      obtain ⟨c, hc⟩ := h (n, k) List.mem_cons_self (by simpa using hk)
      have e : cellOf env n = pure c := by unfold cellOf; rw [hc]
      rw [e]
      have e2 : (env.cells.lookup n).getD 0 = c := by rw [hc]; rfl
      rw [e2]
      exact ih _
    · rw [if_neg hk, if_neg hk]
      exact ih _
theorem closure_ok {scope : Scope} {env : Env} (h : ∀ y ∈ scope.names, y.2 = .free → ∃ c, env.cells.lookup y.1 = some c) : closureFor scope env = pure (cloFrom env.cells scope.names []) := by
  simp only [closureFor]
  rw [closure_loop env _ (fun n k c => rfl) scope.names [] h]
  rfl

theorem mem_lookup {α : Type} : ∀ {l : List (Str × α)} {n : Str} {c : α}, (n, c) ∈ l → ∃ c', l.lookup n = some c'
  | (k, v) :: r, n, c, h => by
    rw [List.lookup_cons]
    cases hb : n == k with
    | true => exact ⟨_, rfl⟩
    | false =>
      rcases List.mem_cons.mp h with e | h
      · cases e; simp at hb
      · exact mem_lookup h

theorem cloFrom_mem {cells : List (Str × Addr)} : ∀ {names : List (Str × NameKind)} {acc : List (Str × Addr)} {n : Str} {c : Addr}, (n, c) ∈ cloFrom cells names acc → (n, c) ∈ acc ∨ ((n, .free) ∈ names ∧ c = (cells.lookup n).getD 0)
  | [], _, _, _, h => .inl h
  | (m, k) :: r, acc, n, c, h => by
    unfold cloFrom at h
    split at h
    · rename_i hk
      have hk : k = .free := by simpa using hk
      rcases cloFrom_mem h with h | ⟨h1, h2⟩
      · rcases List.mem_cons.mp h with e | h
        · cases e; exact .inr ⟨hk ▸ List.mem_cons_self, rfl⟩
        · exact .inl h
      · exact .inr ⟨List.mem_cons_of_mem _ h1, h2⟩
    · rcases cloFrom_mem h with h | ⟨h1, h2⟩
      · exact .inl h
      · exact .inr ⟨List.mem_cons_of_mem _ h1, h2⟩
theorem cloFrom_acc {cells : List (Str × Addr)} : ∀ {names : List (Str × NameKind)} {acc : List (Str × Addr)} {p : Str × Addr}, p ∈ acc → p ∈ cloFrom cells names acc
  | [], _, _, h => h
  | (m, k) :: r, acc, p, h => by
    unfold cloFrom
    split
    · exact cloFrom_acc (List.mem_cons_of_mem _ h)
    · exact cloFrom_acc h
theorem cloFrom_has {cells : List (Str × Addr)} : ∀ {names : List (Str × NameKind)} {acc : List (Str × Addr)} {n : Str}, (n, .free) ∈ names → (n, (cells.lookup n).getD 0) ∈ cloFrom cells names acc
  | (m, k) :: r, acc, n, h => by
    unfold cloFrom
    rcases List.mem_cons.mp h with e | h
    · cases e
      exact cloFrom_acc List.mem_cons_self
    · split
      · exact cloFrom_has h
      · exact cloFrom_has h

theorem cells_mem : ∀ {names : List (Str × NameKind)} {h : Heap} {acc : List (Str × Addr)} {x : Str} {c : Addr}, (x, c) ∈ cellsFrom h.objs.size names acc →
    (x, c) ∈ acc ∨ ((x, .cell) ∈ names ∧ h.objs.size ≤ c ∧ CellAt (pushCells h names) c none)
  | [], _, _, _, _, h => .inl h
  | (n, k) :: r, h, acc, x, c, hm => by
    unfold cellsFrom at hm
    unfold pushCells
    split at hm
    · rename_i hk
      rw [if_pos hk]
      have hk : k = .cell := by simpa using hk
      rw [← Heap.size_push h { cls := .type "cell", data := .cell none }] at hm
      rcases cells_mem hm with hm | ⟨h1, h2, h3⟩
      · rcases List.mem_cons.mp hm with e | hm
        · cases e
          exact .inr ⟨hk ▸ List.mem_cons_self, Nat.le_refl _, _, pushCells_keeps r _ _ _ (Heap.get?_push_size _ rfl), rfl⟩
        · exact .inl hm
      · rw [Heap.size_push] at h2
        exact .inr ⟨List.mem_cons_of_mem _ h1, Nat.le_of_succ_le h2, h3⟩
    · rename_i hk
      rw [if_neg hk]
      rcases cells_mem hm with hm | ⟨h1, h2, h3⟩
      · exact .inl hm
      · exact .inr ⟨List.mem_cons_of_mem _ h1, h2, h3⟩
theorem cells_acc : ∀ {names : List (Str × NameKind)} {n : Nat} {acc : List (Str × Addr)} {p : Str × Addr}, p ∈ acc → p ∈ cellsFrom n names acc
  | [], _, _, _, h => h
  | (m, k) :: r, n, acc, p, h => by
    unfold cellsFrom
    split
    · exact cells_acc (List.mem_cons_of_mem _ h)
    · exact cells_acc h
theorem cells_has : ∀ {names : List (Str × NameKind)} {n : Nat} {acc : List (Str × Addr)} {x : Str}, (x, .cell) ∈ names → ∃ c, (x, c) ∈ cellsFrom n names acc
  | (m, k) :: r, n, acc, x, h => by
    unfold cellsFrom
    rcases List.mem_cons.mp h with e | h
    · cases e
      exact ⟨n, cells_acc List.mem_cons_self⟩
    · split
      · exact cells_has h
      · exact cells_has h
theorem cells_inj : ∀ {names : List (Str × NameKind)} {h : Heap} {acc : List (Str × Addr)} {x y : Str} {c : Addr}, (∀ p ∈ acc, p.2 < h.objs.size) → (∀ x y c, (x, c) ∈ acc → (y, c) ∈ acc → x = y) →
    (x, c) ∈ cellsFrom h.objs.size names acc → (y, c) ∈ cellsFrom h.objs.size names acc → x = y
  | [], _, _, _, _, _, _, hi, h1, h2 => hi _ _ _ h1 h2
  | (n, k) :: r, h, acc, x, y, c, hl, hi, h1, h2 => by
    unfold cellsFrom at h1 h2
    split at h1
    · rename_i hk
      rw [if_pos hk] at h2
      rw [← Heap.size_push h { cls := .type "cell", data := .cell none }] at h1 h2
      refine cells_inj (h := h.push _) (fun p hp => ?_) (fun x y c a b => ?_) h1 h2
      · rw [Heap.size_push]
        rcases List.mem_cons.mp hp with rfl | hp
        · exact Nat.lt_succ_self _
        · exact Nat.lt_succ_of_lt (hl p hp)
      · rcases List.mem_cons.mp a with e | a <;> rcases List.mem_cons.mp b with e' | b
        · cases e; cases e'; rfl
        · cases e; exact absurd (hl _ b) (Nat.lt_irrefl _)
        · cases e'; exact absurd (hl _ a) (Nat.lt_irrefl _)
        · exact hi _ _ _ a b
    · rename_i hk
      rw [if_neg hk] at h2
      exact cells_inj hl hi h1 h2

theorem newEnv_comp {M : Model} {A : Around} {E : Value → Shared → Prop} {s : Shared} {scope : Scope} {globals : Addr} {closure : List (Str × Addr)} {qual : Str} {func : Option Addr} {code : Value} {around : Env} {builtins : Addr} {Q : Env → Shared → Prop}
    (h : Q (newEnv scope s.heap.objs.size globals (cellsFrom (s.heap.objs.size + 1) scope.names closure) qual func code (some around) builtins)
      { s with heap := pushCells (s.heap.push { cls := .type "dict", data := .dict #[] }) scope.names }) :
    wpAny M A (newFunctionEnv scope globals closure [] qual func code (some around) builtins) Q E s := by
  simp only [newFunctionEnv, Option.isSome_some, if_true]
  refine wpAny_bind (wpAny_alloc ?_)
  refine wpAny_bind (wpAny_layCells _ (fun n k c => rfl) scope.names closure _ _ ?_)
  rw [show ({ s with heap := s.heap.push { cls := .type "dict", data := .dict #[] } } : Shared).heap.objs.size = s.heap.objs.size + 1 from Heap.size_push ..]
  rw [List.forIn_nil]
  exact wpAny_bind (wpAny_pure (wpAny_pure h))

/-- every name of the written scope, in the scope that runs -/
theorem lookup_relS {sc : Scope} : ∀ {names : List (Str × NameKind)} {x : Str} {k : NameKind},
    (names.map fun (n, k) => if (k == NameKind.free && sc.kind == .function && sc.names.lookup n == some .cell) then (n, NameKind.cell) else (n, k)).lookup x = some k →
    ∃ k', names.lookup x = some k' ∧ (k = k' ∨ (k' = .free ∧ k = .cell))
  | [], _, _, h => by simp at h
  | (n, k₀) :: r, x, k, h => by
    have ih := @lookup_relS sc r x k
    have h' : List.lookup x ((if (k₀ == NameKind.free && sc.kind == .function && sc.names.lookup n == some .cell) = true then (n, NameKind.cell) else (n, k₀)) :: (r.map _)) = some k := h
    cases hx : x == n with
    | true =>
      simp only [List.lookup_cons, hx]
      by_cases hc : (k₀ == NameKind.free && sc.kind == .function && sc.names.lookup n == some .cell) = true
      · rw [if_pos hc] at h'
        simp only [List.lookup_cons, hx] at h'
        cases h'
        simp only [Bool.and_eq_true, beq_iff_eq] at hc
        exact ⟨k₀, rfl, .inr ⟨hc.1.1, rfl⟩⟩
      · rw [if_neg hc] at h'
        simp only [List.lookup_cons, hx] at h'
        cases h'
        exact ⟨_, rfl, .inl rfl⟩
    | false =>
      simp only [List.lookup_cons, hx]
      by_cases hc : (k₀ == NameKind.free && sc.kind == .function && sc.names.lookup n == some .cell) = true
      · rw [if_pos hc] at h'
        simp only [List.lookup_cons, hx] at h'
        exact ih h'
      · rw [if_neg hc] at h'
        simp only [List.lookup_cons, hx] at h'
        exact ih h'
/-- the names of a comprehension's block: its own (with their places in N), or captured -/
structure BlkOk (N : List Str) (sc scope : Scope) (own : List (Str × Nat)) : Prop where
  kind : scope.kind = .function
  uniq : ∀ y ∈ scope.names, scope.names.lookup y.1 = some y.2
  ix : ∀ p ∈ own, N[p.2]? = some p.1
  free : ∀ y ∈ scope.names, y.2 = .free → sc.names.lookup y.1 = some .cell ∨ sc.names.lookup y.1 = some .free
  own : ∀ y ∈ scope.names, y.2 = .local ∨ y.2 = .cell → y.1 ∈ own.map (·.1) ∨ y.1 ∉ N
/-- the slots of the block's own names forgotten -/
def wipe (σ : St) : List Nat → St
  | [] => σ
  | v :: vs => (wipe σ vs).set v none
theorem wipe_length (σ : St) : ∀ vs : List Nat, (wipe σ vs).length = σ.length
  | [] => rfl
  | v :: vs => by unfold wipe; rw [List.length_set, wipe_length σ vs]
theorem wipe_some {σ : St} {i : Nat} {x : V} : ∀ {vs : List Nat}, (wipe σ vs)[i]? = some (some x) → σ[i]? = some (some x) ∧ i ∉ vs
  | [], h => ⟨h, by simp⟩
  | v :: vs, h => by
    unfold wipe at h
    by_cases hi : v = i
    · subst hi
      by_cases hv : v < (wipe σ vs).length
      · rw [List.getElem?_set_self hv] at h; cases h
      · rw [List.getElem?_eq_none (by simpa using hv)] at h; cases h
    · rw [List.getElem?_set_ne hi] at h
      obtain ⟨h1, h2⟩ := wipe_some h
      exact ⟨h1, by simp only [List.mem_cons, not_or]; exact ⟨fun e => hi e.symm, h2⟩⟩

/-- the context of a block that starts at s, its iterator's objects at fp -/
abbrev Cx.blk (X : Cx) (s : Shared) (H : Hp) (scope : Scope) (cenv : Env) (fp : List Addr) : Cx := { X with s_0 := s, H_0 := H, env := cenv, outer := X.stack, ex := fp, fn := fun x => scope.names.lookup x == some .cell, pn := [], xe := fun _ _ => False }
section
variable {X : Cx} {pins : List (Addr × Obj)} {σ : St} {H : Hp} {s : Shared}
theorem block_start {scope : Scope} {own : List (Str × Nat)} {fp : List Addr} (I : Inv X pins σ H s) (ok : BlkOk X.N X.env.scope scope own) (hN : X.N.Nodup) (hfp : ∀ b ∈ fp, FpOk X pins H b ∧ b < s.heap.objs.size) :
    Inv (X.blk s H scope (compEnvC scope (cellsFrom (s.heap.objs.size + 1) scope.names (cloFrom X.env.cells scope.names [])) s.heap.objs.size X.env) fp) [] (wipe σ (own.map (·.2))) H { s with heap := pushCells (s.heap.push { cls := .type "dict", data := .dict #[] }) scope.names } := by
  have hfree : ∀ y ∈ scope.names, y.2 = .free → ∃ c, X.env.cells.lookup y.1 = some c := fun y hy e => by
    rcases ok.free y hy e with k | k
    · exact I.ok.has _ (.inl k)
    · exact I.ok.has _ (.inr k)
  generalize hcenv : compEnvC scope (cellsFrom (s.heap.objs.size + 1) scope.names (cloFrom X.env.cells scope.names [])) s.heap.objs.size X.env = cenv
  have kp : ∀ b o, s.heap.get? b = some o → (pushCells (s.heap.push { cls := .type "dict", data := .dict #[] }) scope.names).get? b = some o := fun b o e => pushCells_keeps _ _ _ _ (Heap.get?_push_of_some _ e)
  have hL : cenv.locals = s.heap.objs.size := by rw [← hcenv]; rfl
  have hcl : cenv.cells = cellsFrom (s.heap.objs.size + 1) scope.names (cloFrom X.env.cells scope.names []) := by rw [← hcenv]; rfl
  have hsc : cenv.scope = relS scope X.env.scope := by rw [← hcenv]; rfl
  rw [← Heap.size_push s.heap { cls := .type "dict", data := .dict #[] }] at hcl
  have cm : ∀ {y c}, (y, c) ∈ cloFrom X.env.cells scope.names [] → X.env.cells.lookup y = some c ∧ c < s.heap.objs.size := fun {y c} hm => by
    rcases cloFrom_mem hm with hm | ⟨h1, rfl⟩
    · cases hm
    · obtain ⟨c, hc⟩ := hfree _ h1 rfl
      rw [hc]
      obtain ⟨w, z⟩ := I.cell _ _ hc
      exact ⟨rfl, z.lt⟩
  have mem : ∀ {y c}, cenv.cells.lookup y = some c → (X.env.cells.lookup y = some c ∧ c < s.heap.objs.size) ∨ (s.heap.objs.size + 1 ≤ c ∧ CellAt (pushCells (s.heap.push { cls := .type "dict", data := .dict #[] }) scope.names) c none) := fun {y c} e => by
    rw [hcl] at e
    rcases cells_mem (PySem.mem_of_lookup e) with hm | ⟨_, h2, h3⟩
    · exact .inl (cm hm)
    · rw [Heap.size_push] at h2; exact .inr ⟨h2, h3⟩
  have look : ∀ {y}, scope.names.lookup y = some .free → ∃ c, cenv.cells.lookup y = some c ∧ X.env.cells.lookup y = some c := fun {y} hl => by
    have hy : (y, NameKind.free) ∈ scope.names := PySem.mem_of_lookup hl
    obtain ⟨c', e'⟩ := mem_lookup (cells_acc (names := scope.names) (n := (s.heap.push { cls := .type "dict", data := .dict #[] }).objs.size) (cloFrom_has (cells := X.env.cells) (acc := []) hy))
    rw [← hcl] at e'
    refine ⟨c', e', ?_⟩
    rw [hcl] at e'
    rcases cells_mem (PySem.mem_of_lookup e') with hm | ⟨h1, _, _⟩
    · exact (cm hm).1
    · have := ok.uniq _ h1
      rw [hl] at this; cases this
  have okB : (X.blk s H scope cenv fp).Ok := by
    refine ⟨I.ok.mod, by show cenv.scope.kind = _; rw [hsc]; exact ok.kind, by show cenv.globals = _; rw [← hcenv]; exact I.ok.glob, by show cenv.builtins = _; rw [← hcenv]; exact I.ok.blt, by show s.heap.objs.size ≤ cenv.locals; rw [hL]; exact Nat.le_refl _,
      fun y z c e1 e2 => ?_, fun y hy => ?_, fun y c z e => ?_, I.ok.hd, I.ok.frames, .inl rfl, fun b hb => ⟨?_, fun y c e z => ?_⟩, I.bs, Nat.le_trans I.ok.bsz I.sz, fun b o e hb => ?_, fun b hb z => ?_, I.stack, I.stkFree⟩
    · have e1 : cenv.cells.lookup y = some c := e1
      have e2 : cenv.cells.lookup z = some c := e2
      rw [hcl] at e1 e2
      refine cells_inj (fun p hp => ?_) (fun y z c a b => I.ok.inj y z c (cm a).1 (cm b).1) (PySem.mem_of_lookup e1) (PySem.mem_of_lookup e2)
      rw [Heap.size_push]
      exact Nat.lt_succ_of_lt (cm (y := p.1) (c := p.2) hp).2
    · show ∃ c, cenv.cells.lookup y = some c
      have key : ∀ k, cenv.kindOf y = some k → (k = .cell ∨ k = .free) → ∃ c, cenv.cells.lookup y = some c := fun k hk hk' => by
        unfold Env.kindOf at hk
        rw [hsc] at hk
        obtain ⟨k', e, r⟩ := lookup_relS hk
        have : k' = .cell ∨ k' = .free := by
          rcases r with rfl | ⟨rfl, _⟩
          · exact hk'
          · exact .inr rfl
        rcases this with rfl | rfl
        · obtain ⟨c, hm⟩ := cells_has (n := (s.heap.push { cls := .type "dict", data := .dict #[] }).objs.size) (acc := cloFrom X.env.cells scope.names []) (PySem.mem_of_lookup e)
          obtain ⟨c', e'⟩ := mem_lookup hm
          exact ⟨c', by rw [hcl]; exact e'⟩
        · obtain ⟨c, h1, _⟩ := look e
          exact ⟨c, h1⟩
      rcases hy with hy | hy
      · exact key _ hy (.inl rfl)
      · exact key _ hy (.inr rfl)
    · have z : (scope.names.lookup y == some NameKind.cell) = true := z
      have z : scope.names.lookup y = some .cell := by simpa using z
      have e : cenv.cells.lookup y = some c := e
      rw [hcl] at e
      rcases cells_mem (PySem.mem_of_lookup e) with hm | ⟨_, h2, _⟩
      · rcases cloFrom_mem hm with hm | ⟨h1, _⟩
        · cases hm
        · have q := ok.uniq _ h1
          rw [z] at q; cases q
      · rw [Heap.size_push] at h2
        exact Nat.le_of_succ_le h2
    · show b ≠ cenv.locals
      rw [hL]; exact Nat.ne_of_lt (hfp b hb).2
    · have e : cenv.cells.lookup y = some c := e
      rcases mem e with ⟨h1, _⟩ | ⟨h1, _⟩
      · exact (hfp b hb).1.2.2.2.2.1 y c h1 z
      · have h2 : s.heap.objs.size + 1 ≤ b := by rw [← z]; exact h1
        exact absurd (Nat.lt_of_lt_of_le (hfp b hb).2 (Nat.le_of_succ_le h2)) (Nat.lt_irrefl _)
    · rcases (hfp b hb).1.2.2.2.1 with z | z
      · exact I.ok.noex b o e z
      · exact absurd (Nat.lt_of_lt_of_le (Heap.lt_size e) (Nat.le_trans I.ok.bsz z)) (Nat.lt_irrefl _)
    · rcases List.mem_cons.mp (I.stkSub b z) with z | z
      · exact (hfp b hb).1.2.1 z
      · exact (hfp b hb).1.2.2.1 z
  refine ⟨okB, rfl, I.bare, Un.kept kp, ⟨fun _ => none, ?_, fun i y av e1 e2 e3 => ?_⟩, fun y c e => ?_, ?_, fun y c e => ?_, fun p hp => ?_, I.hok.kept kp, by rw [wipe_length]; exact I.len⟩
  · show Heap.Ns _ cenv.locals _
    rw [hL]
    exact Heap.Ns.keeps (Heap.Ns.new ..) fun b o e => pushCells_keeps _ _ _ _ e
  · obtain ⟨e2, hne⟩ := wipe_some e2
    have hfr : scope.names.lookup y = some .free ∧ (cenv.kindOf y = some .cell ∨ cenv.kindOf y = some .free) := by
      have key : ∀ k, cenv.scope.names.lookup y = some k → k = .local ∨ k = .cell ∨ k = .free → scope.names.lookup y = some .free ∧ (cenv.kindOf y = some .cell ∨ cenv.kindOf y = some .free) := fun k hk hk' => by
        have hk0 := hk
        rw [hsc] at hk
        obtain ⟨k', e, r⟩ := lookup_relS hk
        have no : ¬ (k' = .local ∨ k' = .cell) := fun hh => by
          rcases ok.own _ (PySem.mem_of_lookup e) hh with e' | e'
          · obtain ⟨p, hp, hpy⟩ := List.mem_map.mp e'
            have e3 := ok.ix p hp
            have : p.1 = y := hpy
            rw [this] at e3
            exact hne (List.mem_map.mpr ⟨p, hp, nodup_ix hN e3 e1⟩)
          · exact e' (List.mem_of_getElem? e1)
        rcases r with rfl | ⟨rfl, rfl⟩
        · rcases hk' with rfl | rfl | rfl
          · exact absurd (.inl rfl) no
          · exact absurd (.inr rfl) no
          · exact ⟨e, .inr hk0⟩
        · exact ⟨e, .inl hk0⟩
      have e3 : Vis cenv.scope y := e3
      rcases e3 with e3 | e3 | e3
      · exact key _ e3 (.inl rfl)
      · exact key _ e3 (.inr (.inl rfl))
      · exact key _ e3 (.inr (.inr rfl))
    obtain ⟨m, hn, hl⟩ := I.loc
    have hvis : Vis X.env.scope y := (ok.free _ (PySem.mem_of_lookup hfr.1) rfl).elim (fun k => .inr (.inl k)) (fun k => .inr (.inr k))
    obtain ⟨w, r, q⟩ := hl i y av e1 e2 hvis
    refine ⟨w, r, .inr ⟨hfr.2, ?_⟩⟩
    obtain ⟨c, h1, h2⟩ := look hfr.1
    rcases q with ⟨k, _⟩ | ⟨_, c', e', z⟩
    · have k : X.env.scope.names.lookup y = some .local := k
      rcases ok.free _ (PySem.mem_of_lookup hfr.1) rfl with k' | k' <;> rw [show X.env.scope.names.lookup y = _ from k'] at k <;> cases k
    · rw [h2] at e'; cases e'
      exact ⟨c, h1, z.keeps kp⟩
  · have e : cenv.cells.lookup y = some c := e
    rcases mem e with ⟨h1, _⟩ | ⟨_, z⟩
    · obtain ⟨w, z⟩ := I.cell y c h1
      exact ⟨w, z.keeps kp⟩
    · exact ⟨_, z⟩
  · show H cenv.locals = none
    rw [hL]; exact I.hok.fresh (Nat.le_refl _)
  · have e : cenv.cells.lookup y = some c := e
    rcases mem e with ⟨h1, _⟩ | ⟨h1, _⟩
    · exact I.freeC y c h1
    · exact I.hok.fresh (Nat.le_of_succ_le h1)
  · exact absurd (show p ∈ ([] : List (Addr × Obj)) ++ [] from hp) (by simp)

/-- an item appended to a tracked list -/
theorem app_ok {E : Value → Shared → Prop} {D : Addr} {xs : List V} {y : V} {v : Value} {Q : Value → Shared → Prop} (I : Inv X pins σ H s) (hD : H D = some (.lst xs)) (hz : xs.length < sizeLine) (r : RelV y v)
    (h : ∀ s', Inv X pins σ (upd H D (.lst (xs ++ [y]))) s' → Q .none s') : wpAny (model X.prog X.w) X.A (call (.builtin "list.append") [.ref D, v]) Q E s := by
  obtain ⟨hz', its, n, ri, e⟩ := I.hok D _ hD
  have hl := ri.length
  refine append_at (hsz := by rw [List.size_toArray]; omega) e fun h' sb ho' => ?_
  refine h { s with heap := h' } (I.write (t' := s.toks) (by rw [hD]; trivial) (.inl rfl) (fun b u hb q => (sb.2 b hb).trans q) ⟨_, ho'⟩ ⟨by rw [List.length_append]; exact hz, its ++ [v], n + 1, ri.append (.cons r .nil), ?_⟩)
  rw [ho']
  simp

/-- a clause's tests -/
def PTs (X : Cx) (ifs : List Expr) (t : TT) : Prop :=
  ∀ (pins : List (Addr × Obj)) (s : Shared) (σ : St) (H : Hp) (Q : Bool → Hp → Prop), Inv X pins σ H s → t σ H Q →
    wpAny (model X.prog X.w) X.A (forIn ifs true fun c r => if r = true then do let ok ← isTrue c X.env (eval c X.env); pure (ForInStep.yield ok) else pure (ForInStep.yield r)) (TP X pins σ Q) X.xe s
def tYes : TT := fun _ H Q => Q true H
theorem pts_nil : PTs X [] tYes := fun _ _ _ H _ I h => wpAny_tests_nil ⟨H, I, h⟩
theorem pts_one {c : Expr} {t : TT} (h : PT X c t) : PTs X [c] t := fun pins s σ H Q I hw => wpAny_tests_one (h pins s σ H Q I hw)
end

theorem thnF {α : Type} {t : Sem α} {Q Q' : α → Shared → Prop} {M : Model} {A : Around} {E : Value → Shared → Prop} {s : Shared} (h : wpAny M A t Q (fun _ _ => False) s) (hQ : ∀ a s, Q a s → Q' a s) : wpAny M A t Q' E s := wpAny_mono h hQ fun _ _ z => False.elim z

/-- the loop of a list comprehension's block, the target of any form (codeAny_compLoop_tests asks a target that no tuple goes to; statement and proof follow it, PyProof/CompMap.lean:41-61, with the step letOwnedTupleGo kept) -/
theorem compLoop_any {prog : Program} {w : World} {A : Around} {R : Result → Shared → Prop} {s : Shared} {elt target iter : Expr} {ifs : List Expr} {scope : Scope} {pos : Pos} {it acc : Value} {env : Env} (I : Nat → Shared → Prop)
    (turn : ∀ n s, I n s → wpAny (model prog w) A (pyNext it) (fun r s₁ => match r with
      | none => R (.ok .next) s₁
      | some v => wpAny (model prog w) A (letOwnedTupleGo target it v) (fun _ s₁' => wpAny (model prog w) A (assign target env v) (fun _ s₂ =>
          wpAny (model prog w) A (forIn ifs true fun c r => if r = true then do let ok ← isTrue c env (eval c env); pure (ForInStep.yield ok) else pure (ForInStep.yield r)) (fun ok s₃ =>
            if ok = true then wpAny (model prog w) A (eval elt env) (fun x s₄ =>
              wpAny (model prog w) A (call (.builtin "list.append") [acc, x]) (fun _ s₅ => ∃ m, m < n ∧ I m s₅) (notedBy (model prog w) A env fun e s' => R (.error e) s') s₄) (notedBy (model prog w) A env fun e s' => R (.error e) s') s₃
            else ∃ m, m < n ∧ I m s₃) (notedBy (model prog w) A env fun e s' => R (.error e) s') s₂) (notedBy (model prog w) A env fun e s' => R (.error e) s') s₁') (notedBy (model prog w) A env fun e s' => R (.error e) s') s₁) (notedBy (model prog w) A env fun e s' => R (.error e) s') s)
    (n : Nat) (h : I n s) :
    codeAny (model prog w) A (.compLoop (.ListComp elt [⟨target, iter, ifs, 0⟩] scope pos) 0 it acc env) R s := by
  refine codeAny_loop rfl I (fun n s hI => ?_) n h
  show wpAny _ A ((compTurn (.ListComp elt [⟨target, iter, ifs, 0⟩] scope pos) 0 it acc env).onRaise (fun x => do noteFrame x env; theTreesLotGoes x)) _ _ s
  refine wpAny_noted ?_
  rw [compTurn_list]
  refine wpAny_bind (wpAny_standAt (wpAny_bind (wpAny_mono (turn n s hI) (fun r s₁ h₁ => ?_) fun _ _ h' => h')))
  cases r with
  | none => exact wpAny_pure h₁
  | some v =>
    refine wpAny_bind (wpAny_mono h₁ (fun _ s₁' h₁' => ?_) fun _ _ h' => h')
    refine wpAny_bind (wpAny_mono h₁' (fun _ s₂ h₂ => wpAny_bind (wpAny_mono h₂ (fun ok s₃ h₃ => ?_) fun _ _ h' => h')) fun _ _ h' => h')
    cases ok with
    | false => exact wpAny_pure ⟨rfl, h₃⟩
    | true =>
      exact wpAny_bind (wpAny_bind (wpAny_mono h₃ (fun x s₄ h₄ => wpAny_bind (wpAny_mono h₄ (fun _ s₅ h₅ => wpAny_pure (wpAny_pure ⟨rfl, h₅⟩)) fun _ _ h' => h')) fun _ _ h' => h'))

section
variable {X : Cx}
/-- [elt for target in iter if ..]: D the new list; W by the turn and a measure, Nx what a turn is to reach -/
def tLc (wi : TI) (g : TG) (tt : TT) (te : TE) (vs : List Nat) : TE := fun σ H Q => wi σ H fun J H1 => ∀ D, H1 D = none → ∃ W : Nat → Nat → Hp → Prop, (∃ m, W 0 m (upd H1 D (.lst []))) ∧ ∀ i m H, W i m H →
  (J.stop i H ∧ Q (.ref D) H) ∨ (J.go i H ∧ ∃ Nx : Hp → Prop, (∀ H', Nx H' → ∃ m', m' < m ∧ W (i + 1) m' H') ∧ ∀ x H', J.yld i H x H' → g x (wipe σ vs) H' fun σ2 H2 => wipe σ2 vs = wipe σ vs ∧ tt σ2 H2 fun b H3 =>
    if b = true then te σ2 H3 fun y H4 => ∃ acc, H4 D = some (.lst acc) ∧ acc.length < sizeLine ∧ Nx (upd H4 D (.lst (acc ++ [y]))) else Nx H3)
theorem lc_core {pins : List (Addr × Obj)} {s : Shared} {σ : St} {H : Hp} {Q : VK} {elt tg iter : Expr} {ifs : List Expr} {scope : Scope} {own : List (Str × Nat)} {pos pos' : Pos} {wi : TI} {g : TG} {tt : TT} {te : TE} {use : Option (Value → Sem Unit)} {Qf : Value → Shared → Prop}
    (hc : X.calm = true) (hN : X.N.Nodup) (I : Inv X pins σ H s) (hi : PI X tg iter wi) (ok : BlkOk X.N X.env.scope scope own)
    (hg : ∀ (s : Shared) (H : Hp) (C : Addr) (cl : List (Str × Addr)) (fp : List Addr), PG (X.blk s H scope (compEnvC scope cl C X.env) fp) tg g) (ht : ∀ (s : Shared) (H : Hp) (C : Addr) (cl : List (Str × Addr)) (fp : List Addr), PTs (X.blk s H scope (compEnvC scope cl C X.env) fp) ifs tt)
    (he : ∀ (s : Shared) (H : Hp) (C : Addr) (cl : List (Str × Addr)) (fp : List Addr), PE (X.blk s H scope (compEnvC scope cl C X.env) fp) elt te) (hs : ∀ x, foldedSetIterable iter X.env x = pure x)
    (h : tLc wi g tt te (own.map (·.2)) σ H Q)
    (hRR : ∀ D C s' m H', Inv X pins σ H' s' → Q (.ref D) H' → s'.heap.Ns C m → FpOk X pins H' C → compPost (model X.prog X.w) X.A X.xe use Qf (.ref D) C (.ok .next) s') :
    wpAny (model X.prog X.w) X.A (comprehension (.ListComp elt [⟨tg, iter, ifs, 0⟩] scope pos) scope X.env pos' (newList []) false (eval iter X.env) use) Qf X.xe s := by
  have hfree : ∀ y ∈ scope.names, y.2 = .free → ∃ c, X.env.cells.lookup y.1 = some c := fun y hy e => by
    rcases ok.free y hy e with k | k
    · exact I.ok.has _ (.inl k)
    · exact I.ok.has _ (.inr k)
  refine wpAny_comprehension_free (use := use) rfl hs (closure_ok hfree) ok.kind (fun y hy e => by rw [ok.uniq y hy, e])
    (thn (hi pins s σ H _ I h) fun xv s1 hx => thn hx fun itv s2 h2 => ?_)
  obtain ⟨it, fp, tn, J, H2, e, I2, T, st2, f2, q⟩ := h2
  subst e
  refine wpAny_newObj_type (newEnv_comp ?_) (by show 0 ≤ sizeLine; decide)
  generalize hD : s2.heap.objs.size = D
  have hDn : H2 D = none := I2.hok.fresh (Nat.le_of_eq hD)
  obtain ⟨W, ⟨m0, w0⟩, turn⟩ := q D hDn
  -- the new list
  generalize hs3 : ({ s2 with heap := s2.heap.push { cls := .type "list", data := .seq ([] : List Value).toArray } } : Shared) = s3
  have I3 : Inv X pins σ (upd H2 D (.lst [])) s3 := by
    rw [← hs3]
    refine I2.laid (t' := s2.toks) (fun b o e => Heap.get?_push_of_some _ e) (Nat.le_of_eq hD) ⟨Nat.zero_le _, [], 0, .nil, ?_⟩
    rw [← hD]
    exact Heap.get?_push_size _ rfl
  have h3 : s3.heap = s2.heap.push { cls := .type "list", data := .seq ([] : List Value).toArray } := by rw [← hs3]
  have sz : ∀ b ∈ fp, b < s2.heap.objs.size := fun b hb => by
    obtain ⟨o, e, _⟩ := T.obj _ _ st2 b hb
    exact Heap.lt_size e
  have f3 : ∀ b ∈ fp, FpOk X pins (upd H2 D (.lst [])) b ∧ b < s3.heap.objs.size := fun b hb => by
    have hlt := sz b hb
    refine ⟨⟨?_, (f2 b hb).2⟩, by rw [h3, Heap.size_push]; exact Nat.lt_succ_of_lt hlt⟩
    rw [upd_ne (by rw [← hD]; exact Nat.ne_of_lt hlt)]
    exact (f2 b hb).1
  have st3 : tn 0 s3.heap := T.keep _ _ _ st2 fun b _ o e => by rw [h3]; exact Heap.get?_push_of_some _ e
  have I4 := block_start I3 ok hN f3
  have pg := hg s3 (upd H2 D (.lst [])) s3.heap.objs.size (cellsFrom (s3.heap.objs.size + 1) scope.names (cloFrom X.env.cells scope.names [])) fp
  have pt := ht s3 (upd H2 D (.lst [])) s3.heap.objs.size (cellsFrom (s3.heap.objs.size + 1) scope.names (cloFrom X.env.cells scope.names [])) fp
  have pe := he s3 (upd H2 D (.lst [])) s3.heap.objs.size (cellsFrom (s3.heap.objs.size + 1) scope.names (cloFrom X.env.cells scope.names [])) fp
  show codeAny _ _ (.compStart (.ListComp elt [⟨tg, iter, ifs, 0⟩] scope pos) 0 (.ref it) (.ref D) (compEnvC scope (cellsFrom (s3.heap.objs.size + 1) scope.names (cloFrom X.env.cells scope.names [])) s3.heap.objs.size X.env)) (compPost (model X.prog X.w) X.A X.xe use Qf (.ref D) s3.heap.objs.size) { s3 with heap := pushCells (s3.heap.push { cls := .type "dict", data := .dict #[] }) scope.names }
  have nfp : ∀ b ∈ fp, (upd H2 D (.lst [])) b = none := fun b hb => (f3 b hb).1.1
  generalize hce : compEnvC scope (cellsFrom (s3.heap.objs.size + 1) scope.names (cloFrom X.env.cells scope.names [])) s3.heap.objs.size X.env = ce at I4 pg pt pe ⊢
  have cL : ce.locals = s3.heap.objs.size := by subst hce; rfl
  generalize hH3 : upd H2 D (.lst []) = H3 at I3 I4 pg pt pe w0 nfp f3
  generalize hs4 : ({ s3 with heap := pushCells (s3.heap.push { cls := .type "dict", data := .dict #[] }) scope.names } : Shared) = s4 at I4 ⊢
  have st4 : tn 0 s4.heap := T.keep _ _ _ st3 fun b _ o e => by rw [← hs4]; exact pushCells_keeps _ _ _ _ (Heap.get?_push_of_some _ e)
  have stat : ∀ {σ' : St} {H' : Hp} {s' : Shared}, Inv (X.blk s3 H3 scope ce fp) [] σ' H' s' → (∀ b ∈ fp, H' b = none) → ∀ b ∈ fp, FpOk (X.blk s3 H3 scope ce fp) [] H' b := fun {σ' H' s'} I' hn b hb =>
    ⟨hn b hb, (I'.ok.exf b hb).1, I'.ok.exfs b hb, .inl hb, fun x c e => (I'.ok.exf b hb).2 x c e, fun p hp => absurd (show p ∈ ([] : List (Addr × Obj)) ++ [] from hp) (by simp)⟩
  have loop : codeAny (model X.prog X.w) X.A (.compLoop (.ListComp elt [⟨tg, iter, ifs, 0⟩] scope pos) 0 (.ref it) (.ref D) ce) (compPost (model X.prog X.w) X.A X.xe use Qf (.ref D) s3.heap.objs.size) s4 := by
    refine compLoop_any (fun n s' => ∃ i H', Inv (X.blk s3 H3 scope ce fp) [] (wipe σ (own.map (·.2))) H' s' ∧ tn i s'.heap ∧ (∀ b ∈ fp, H' b = none) ∧ W i n H') ?_ m0 ⟨0, H3, I4, st4, nfp, w0⟩
    rintro n s5 ⟨i, H5, I5, st5, n5, w5⟩
    rcases turn i n H5 w5 with ⟨stop, qq⟩ | ⟨go, Nx, hNx, step⟩
    · have td := T.done (X.blk s3 H3 scope ce fp) rfl rfl rfl hc i [] s5 _ H5 (fun _ _ => False) I5 (stat I5 n5) st5 stop
      refine thnF td fun r s6 ⟨hr, I6⟩ => ?_
      subst hr
      -- back in the def's context
      have I7 : Inv X pins σ H5 s6 := I3.call' (ch := fp) I6.os I6.base I6.hok I6.bare fun b hb => ⟨(f3 b hb).1.2.2.2.1, (f3 b hb).1.2.1, (f3 b hb).1.2.2.2.2.1, (f3 b hb).1.2.2.2.2.2⟩
      have nC : H5 s3.heap.objs.size = none := by
        have z : H5 ce.locals = none := I6.free
        rw [cL] at z
        exact z
      obtain ⟨m, hn, _⟩ := I6.loc
      have hn : s6.heap.Ns ce.locals m := hn
      rw [cL] at hn
      exact hRR D s3.heap.objs.size s6 m H5 I7 qq hn (I3.fpOk (Nat.le_refl _) nC)
    · have ti := T.item (X.blk s3 H3 scope ce fp) rfl rfl rfl hc i [] s5 _ H5 (fun _ _ => False) I5 (stat I5 n5) st5 go
      refine thnF ti fun r s6 ⟨u, hr, h6⟩ => ?_
      subst hr
      refine thnF h6 fun _ s7 ⟨x, H7, I7, r7, y7, st7, n7⟩ => ?_
      have I7' := I7.pinned (stat I7 n7) (T.obj _ _ st7)
      refine thnF (pg _ s7 _ H7 x u _ I7' r7 (step x H7 y7)) fun _ s8 ⟨σ8, H8, I8, hw8, q8⟩ => ?_
      refine thnF (pt _ s8 σ8 H8 _ I8 q8) fun b s9 ⟨H9, I9, q9⟩ => ?_
      -- the turn's end
      have fin : ∀ {s' : Shared} {H' : Hp}, Inv (X.blk s3 H3 scope ce fp) ([] ++ pinsAt fp s7.heap) σ8 H' s' → Nx H' → ∃ m, m < n ∧ ∃ i H', Inv (X.blk s3 H3 scope ce fp) [] (wipe σ (own.map (·.2))) H' s' ∧ tn i s'.heap ∧ (∀ b ∈ fp, H' b = none) ∧ W i m H' := fun {s' H'} I' nx => by
        obtain ⟨m', hm, w'⟩ := hNx H' nx
        have pin' : ∀ b ∈ fp, ∀ o, s7.heap.get? b = some o → s'.heap.get? b = some o ∧ H' b = none := fun b hb o e =>
          let z := I'.pin (b, o) (List.mem_append_right _ (List.mem_append_right _ (mem_pinsAt hb e)))
          ⟨z.1, z.2.1⟩
        have hl : (wipe σ (own.map (·.2))).length = σ8.length := by rw [← hw8, wipe_length]
        refine ⟨m', hm, i + 1, H', (I'.unpinned (pins := [])).weak hl (fun j v e => ?_), T.keep _ _ _ st7 fun b hb o e => (pin' b hb o e).1, fun b hb => ?_, w'⟩
        · rw [← hw8] at e
          exact (wipe_some e).1
        · obtain ⟨o, e, _⟩ := T.obj _ _ st7 b hb
          exact (pin' b hb o e).2
      cases b with
      | false =>
        simp only [Bool.false_eq_true, if_false] at q9 ⊢
        exact fin I9 q9
      | true =>
        simp only [if_true] at q9 ⊢
        refine thnF (pe _ s9 σ8 H9 _ I9 q9) fun z s10 ⟨yv, H10, I10, r10, acc, hD10, hz10, nx⟩ => ?_
        exact app_ok (X := X.blk s3 H3 scope ce fp) I10 hD10 hz10 r10 fun s11 I11 => fin I11 nx
  exact codeAny_compStart_list loop (T.self X.A 0 _ _ _ st4 loop)
/-- as a value -/
theorem pe_lc {elt tg iter : Expr} {ifs : List Expr} {scope : Scope} {own : List (Str × Nat)} {pos : Pos} {wi : TI} {g : TG} {tt : TT} {te : TE} (hc : X.calm = true) (hN : X.N.Nodup) (hi : PI X tg iter wi) (ok : BlkOk X.N X.env.scope scope own)
    (hg : ∀ (s : Shared) (H : Hp) (C : Addr) (cl : List (Str × Addr)) (fp : List Addr), PG (X.blk s H scope (compEnvC scope cl C X.env) fp) tg g) (ht : ∀ (s : Shared) (H : Hp) (C : Addr) (cl : List (Str × Addr)) (fp : List Addr), PTs (X.blk s H scope (compEnvC scope cl C X.env) fp) ifs tt)
    (he : ∀ (s : Shared) (H : Hp) (C : Addr) (cl : List (Str × Addr)) (fp : List Addr), PE (X.blk s H scope (compEnvC scope cl C X.env) fp) elt te) (hs : ∀ x, foldedSetIterable iter X.env x = pure x := by intro _; rfl) :
    PE X (.ListComp elt [⟨tg, iter, ifs, 0⟩] scope pos) (tLc wi g tt te (own.map (·.2))) := by
  intro pins s σ H Q I h
  rw [eval_ListComp]
  refine lc_core hc hN I hi ok hg ht he hs h fun D C s' m H' I' q hn f => ⟨m, hn, fun h'' sb => ?_⟩
  obtain ⟨f0, f1, f2, f3, f4, f5⟩ := f
  exact ⟨.ref D, H', I'.turned (t' := s'.toks) (fun b o hb e => (sb.2 b hb).trans e) f0 f1 f3 f4 f5, rfl, q⟩
/-- name = [..] on one line, the name a local -/
theorem ps_setLc {i : Nat} {y : Str} {py : Pos} {elt tg iter : Expr} {ifs : List Expr} {scope : Scope} {own : List (Str × Nat)} {pos spos : Pos} {wi : TI} {g : TG} {tt : TT} {te : TE} (hc : X.calm = true) (hN : X.N.Nodup) (hy : X.N[i]? = some y) (hyl : X.env.scope.names.lookup y = some .local)
    (hsw : swapsWith (.ListComp elt [⟨tg, iter, ifs, 0⟩] scope pos) (some (.Name y py)) spos.line X.env = pure true) (hi : PI X tg iter wi) (ok : BlkOk X.N X.env.scope scope own)
    (hg : ∀ (s : Shared) (H : Hp) (C : Addr) (cl : List (Str × Addr)) (fp : List Addr), PG (X.blk s H scope (compEnvC scope cl C X.env) fp) tg g) (ht : ∀ (s : Shared) (H : Hp) (C : Addr) (cl : List (Str × Addr)) (fp : List Addr), PTs (X.blk s H scope (compEnvC scope cl C X.env) fp) ifs tt)
    (he : ∀ (s : Shared) (H : Hp) (C : Addr) (cl : List (Str × Addr)) (fp : List Addr), PE (X.blk s H scope (compEnvC scope cl C X.env) fp) elt te) (hs : ∀ x, foldedSetIterable iter X.env x = pure x := by intro _; rfl) :
    PS X (.Assign [.Name y py] (.ListComp elt [⟨tg, iter, ifs, 0⟩] scope pos) spos) (tAsg (tLc wi g tt te (own.map (·.2))) (gName i)) := by
  intro pins s σ H D I h
  rw [exec_Assign_Name_used _ _ _ _ hsw]
  refine wpAny_bind (wpAny_standAt (wpAny_bind ?_))
  show wpAny _ X.A (do let _ ← comprehension (.ListComp elt [⟨tg, iter, ifs, 0⟩] scope pos) scope X.env (firstIterPos [⟨tg, iter, ifs, 0⟩] pos) (newList []) false (eval iter X.env) (some (assign (.Name y py) X.env))) _ _ s
  have h : tLc wi g tt te (own.map (·.2)) σ H (fun x H1 => gName i x σ H1 D.nx) := h
  refine wpAny_bind (thn (lc_core (Qf := fun _ s' => SP X pins D .next s') hc hN I hi ok hg ht he hs h fun L C s' m H' I' q hn f => ?_) fun _ s' hq => wpAny_pure (wpAny_pure hq))
  show wpAny _ _ (assign (.Name y py) X.env (.ref L)) _ _ _
  refine wpAny_assign_Name (store_ok2 (v := V.ref L) I' hN hy (.inl hyl) rfl (fun s2 I2 ⟨a, sb, ha⟩ => ?_) (.inr hyl))
  obtain ⟨f0, f1, f2, f3, f4, f5⟩ := f
  have haC : C ≠ a := by
    rcases ha with z | z
    · rw [z]; exact f1
    · exact fun e => f4 y a z e.symm
  refine ⟨m, hn.sameBut sb haC, fun h3 sb3 => ?_⟩
  exact ⟨_, H', I2.turned (t' := s2.toks) (fun b o hb e => (sb3.2 b hb).trans e) f0 f1 f3 f4 f5, q⟩
theorem sw_true {elt : Expr} {gs : List Comprehension} {scope : Scope} {pos py : Pos} {y : Str} {l : Nat} {env : Env} (hk : env.scope.kind = .function) (hy : env.scope.names.lookup y = some .local) (hl : (py.line == pos.line) = true)
    (ha : (scope.names.any fun (n, k) => n == y && (k == .local || k == .cell)) = false) : swapsWith (.ListComp elt gs scope pos) (some (.Name y py)) l env = pure true := by
  have ky : env.kindOf y = some .local := hy
  have hb : env.blockKind = .function := by unfold Env.blockKind; rw [hk]; rfl
  unfold swapsWith
  simp only [hb, ky, ha, Expr.pos, hl]
  rfl
end

def blkC (N : List Str) (sc scope : Scope) (own : List (Str × Nat)) : Bool :=
  (match scope.kind with | .function => true | _ => false) && (scope.names.all fun y => decide (scope.names.lookup y.1 = some y.2)) && (own.all fun p => decide (N[p.2]? = some p.1)) &&
    (scope.names.all fun y => match y.2 with
      | .free => (match sc.names.lookup y.1 with | some .cell => true | some .free => true | _ => false)
      | .local => decide (y.1 ∈ own.map (·.1)) || decide (y.1 ∉ N)
      | .cell => decide (y.1 ∈ own.map (·.1)) || decide (y.1 ∉ N)
      | _ => true)
theorem blkOk_by {N : List Str} {sc scope : Scope} {own : List (Str × Nat)} (h : blkC N sc scope own = true) : BlkOk N sc scope own := by
  unfold blkC at h
  simp only [Bool.and_eq_true, List.all_eq_true, decide_eq_true_eq] at h
  obtain ⟨⟨⟨h1, h2⟩, h3⟩, h4⟩ := h
  refine ⟨?_, h2, h3, fun y hy e => ?_, fun y hy e => ?_⟩
  · split at h1
    · assumption
    · cases h1
  · have q := h4 y hy
    simp only [e] at q
    split at q <;> first | exact .inl (by assumption) | exact .inr (by assumption) | cases q
  · have q := h4 y hy
    rcases e with e | e <;> (simp only [e, Bool.or_eq_true, decide_eq_true_eq] at q; exact q)
end L2

namespace L2
open PySem PySem.Spec PyProof.Rows

section
variable {prog : Program} {w : World} {A : Around} {R : Result → Shared → Prop} {s : Shared} {elt t0 i0 t1 i1 : Expr} {ifs0 ifs1 : List Expr} {scope : Scope} {pos : Pos} {it acc : Value} {env : Env}
end

section
variable {X : Cx}
end
end L2

namespace L2
open PySem PySem.Spec PyProof.Rows

section
variable {κ : Type} [DecidableEq κ]
end

section
variable {P : Program} {w : World} {H : Hp} {h : Heap} {a : Addr}
end

section
variable {X : Cx} {pins : List (Addr × Obj)} {σ : St} {H : Hp} {s : Shared} {a : Addr} {y v : V} {u r : Value} {o : Option V} {A : Around} {E : Value → Shared → Prop}

end

section
variable {X : Cx} {pins : List (Addr × Obj)} {σ : St} {H : Hp} {s : Shared} {a : Addr} {kvs : List (Key × V)} {k : Key} {u : Value} {A : Around} {E : Value → Shared → Prop}
end

section
variable {X : Cx} {o i e value : Expr} {pos pos' tpos : Pos} {td ty tv : TE}
end

section
variable {X : Cx} {pos : Pos}
end

section
variable {X : Cx} {pins : List (Addr × Obj)} {σ : St} {H : Hp} {s : Shared} {a : Addr} {y d : V} {u r : Value} {o : Option V} {A : Around} {E : Value → Shared → Prop}
end

section
variable {X : Cx} {o e f : Expr} {apos cpos : Pos} {td ty tx : TE}
end

section
variable {X : Cx} {pins : List (Addr × Obj)} {σ : St} {H : Hp} {s : Shared} {a : Addr} {kvs : List (Key × V)} {A : Around} {E : Value → Shared → Prop}
end

section
variable {X : Cx} {pins : List (Addr × Obj)} {σ : St} {H : Hp} {s : Shared} {a : Addr} {y : V} {u : Value} {A : Around} {E : Value → Shared → Prop}
end
end L2

namespace L2
open PySem PySem.Spec PyProof.Rows

section
variable {prog : Program} {w : World} {A : Around} {E : Value → Shared → Prop}
end

section
variable {X : Cx}
end
end L2

namespace L2
open PySem PySem.Spec PyProof.Rows

theorem boot_reversed5 : bootBuiltins "reversed" = some (.type "reversed") := by decide +kernel

section
variable {X : Cx} {pins : List (Addr × Obj)} {σ : St} {H : Hp} {s : Shared} {h' : Heap}
/-- .. and one new object is laid -/
theorem Inv.turnedNew {t' : Nat} {ch : List Addr} {T : Addr} {ob : HO} (I : Inv X pins σ H s) (k : ∀ b o, b ∉ ch → s.heap.get? b = some o → h'.get? b = some o) (hf : ∀ b ∈ ch, FpOk X pins H b) (hT : s.heap.objs.size ≤ T)
    (new : ObjOk X.prog X.w (upd H T ob) h' T ob) : Inv X pins σ (upd H T ob) { s with heap := h', toks := t' } := by
  have hn : H T = none := I.hok.fresh hT
  have nit : ∀ b u, H b = some u → b ∉ ch := fun b u e z => by
    have q := (hf b z).1
    rw [q] at e; cases e
  refine I.step (g' := s.gens) (d' := s.drawn) (ch := ch) (fun b hb => ⟨(hf b hb).2.2.2.1, (hf b hb).2.1, (hf b hb).2.2.2.2.1, (hf b hb).2.2.2.2.2⟩) (fun b o _ _ hc e _ => k b o hc e) (fun b o _ _ hc e _ => ⟨o.slots, k b o hc e⟩)
    (fun b o _ e n => ?_) (fun b o hc e => ⟨o, k b o hc e⟩) (fun b xs e => ?_) (fun b o u e => ?_) (fun b ps e => ⟨#[], ?_⟩) (fun m hm => ?_) (fun b u e => ?_) I.bare
  · rw [upd_ne (Nat.ne_of_lt (Nat.lt_of_lt_of_le (Heap.lt_size e) hT))]; exact n
  · rw [upd_ne (ne_of_none e hn)]; exact e
  · rw [upd_ne (ne_of_none e hn)]; exact e
  · rw [upd_ne (ne_of_none e hn), e]; simp
  · obtain ⟨o, es, ep, ho, r⟩ := hm
    exact ⟨o, es, ep, k _ o (fun z => (hf _ z).2.1 rfl) ho, r⟩
  · by_cases hb : b = T
    · subst hb
      rw [upd_same] at e
      cases e
      exact new
    · rw [upd_ne hb] at e
      refine (I.hok b u e).stay (fun c v hc q => k c v ?_ q) (fun c q => by rw [upd_ne (ne_of_none q hn)]; exact q) fun c xs q => by rw [upd_ne (ne_of_none q hn)]; exact q
      rcases hc with z | z
      · rw [z]; exact nit b u e
      · exact nit c _ z

end
section
variable {X : Cx}
theorem pi_one {tg : Expr} {pins : List (Addr × Obj)} {σ : St} {H : Hp} {s : Shared} {R : It → Hp → Prop} {J : It} {tn : Nat → Heap → Prop} {tk : Nat} (I : Inv X pins σ H s) (o : Obj)
    (T : Turn X.prog X.w X.K tg J [s.heap.objs.size] s.heap.objs.size tn) (st : tn 0 (s.heap.push o)) (q : R J H) : PIE X pins σ tg R (.ref s.heap.objs.size) { s with heap := s.heap.push o, toks := tk } := by
  refine ⟨s.heap.objs.size, [s.heap.objs.size], tn, J, H, rfl, I.kept fun b ob e => Heap.get?_push_of_some _ e, T, st, fun b hb => ?_, q⟩
  have e : b = s.heap.objs.size := by simpa using hb
  subst e
  exact I.fpOk (Nat.le_refl _) (I.hok.fresh (Nat.le_refl _))
end

/-- lo, lo + c, .. (n of them) -/
def Itc (lo c : Int) (n : Nat) : It := ⟨fun i _ => i < n, fun i H x H' => H' = H ∧ x = .int (lo + (i : Nat) * c), fun i _ => n ≤ i⟩
theorem turn_rangeC {P : Program} {w : World} {K : PySem.W.Frag} {tg : Expr} (it : Addr) (lo c : Int) (n : Nat) : Turn P w K tg (Itc lo c n) [it] it (fun i h => IsRangeIter h it (lo + (i : Nat) * c) ((n : Int) - (i : Nat)) c) where
  mem := by simp
  obj := fun i h st b hb => by
    have e : b = it := by simpa using hb
    subst e
    exact ⟨_, st, fun v z => nomatch z⟩
  keep := fun i h h' st k => k it (by simp) _ st
  item := by
    intro X hP hw hK hc i pins s σ H E I hf st hg
    subst hP hw hK
    obtain ⟨f0, f1, f2, f3, f4, f5⟩ := hf it (by simp)
    have W := Walks.range (prog := X.prog) (w := X.w) (I.ok.hd hc) it lo c n
    refine W.item i s _ _ hg st fun v h' tk hv st' kk => ?_
    obtain ⟨t, rfl⟩ := hv
    have I1 : Inv X pins σ H { s with heap := h', toks := tk } := I.turned (fun b o hb e => kk b o (by simpa using hb) e) f0 f1 f3 f4 f5
    exact ⟨_, rfl, go_of (s := { s with heap := h', toks := tk }) (n := "range_iterator") st' rfl rfl (by decide) ⟨.int (lo + (i : Nat) * c), H, I1, ⟨t, rfl⟩, ⟨rfl, rfl⟩, st', fun b hb => (hf b hb).1⟩⟩
  done := by
    intro X hP hw hK hc i pins s σ H E I hf st hg
    subst hP hw hK
    obtain ⟨f0, f1, f2, f3, f4, f5⟩ := hf it (by simp)
    exact wpAny_pyNext_range_end (I.ok.hd hc) st (by have : n ≤ i := hg; omega) fun h' eb => ⟨rfl, I.turned (t' := s.toks) (fun b o hb e => eb b o hb e) f0 f1 f3 f4 f5⟩
  self := fun A i s Q E st h => wpAny_pyIter_rangeiter st h
/-- range(i, j, c): small bounds, n items -/
def RgC (i j c : Int) (n : Nat) : Prop := c ≠ 0 ∧ c.natAbs < 1073741824 ∧ Builtin.Range.small i j c = true ∧ Builtin.Range.rangeSize i j c = n
theorem RgC.neg {i j : Int} (ha : -(2 ^ 62) ≤ i) (ha' : i < 2 ^ 62) (hb : -(2 ^ 62) ≤ j) (hb' : j < 2 ^ 62) : RgC i j (-1) (i - j).toNat :=
  ⟨by decide, by decide, PySem.W.small_down ha ha' hb hb', PySem.W.rangeSize_downNat i j⟩
def iRng3 (ta : TA) : TI := fun σ H R => ta σ H fun vs H1 => ∃ (i j c : Int) (n : Nat), vs = [.int i, .int j, .int c] ∧ RgC i j c n ∧ R (Itc i c n) H1
section
variable {X : Cx} {tg : Expr}
theorem pi_range3 {a b c : Expr} {ta : TA} {p pos : Pos} (hg : Gl X "range") (hm : X.mg "range" = none) (ha : PA X [a, b, c] ta)
    (hs : starEach [a, b, c] X.env = (false, eval a X.env) :: starEach [b, c] X.env := by rfl) (hpl : (backTo pos (starEach [b, c] X.env)).any (·.1) = false := by rfl) :
    PI X tg (.Call (.Name "range" p) [a, b, c] [] pos) (iRng3 ta) := by
  intro pins s σ H R I h
  refine Call_ (ld_blt I hg hm boot_range (PyProof.Rows.callWith_type1 (thn (ha pos pins s σ H _ I h) fun us s1 ⟨vs, H1, I1, r1, q1⟩ => ?_) hs hpl))
  obtain ⟨i, j, k, n, e, ⟨c0, c1, c2, c3⟩, q⟩ := q1
  subst e
  cases r1 with
  | cons r rr =>
    cases rr with
    | cons r' rr =>
      cases rr with
      | cons r'' rr =>
        cases rr
        obtain ⟨t, rfl⟩ := r
        obtain ⟨t', rfl⟩ := r'
        obtain ⟨t'', rfl⟩ := r''
        refine call_range_3 c0 ?_ (.inl (PyProof.noPylong_small c1))
        refine wpAny_pyIter_range (IsRange.new ..) c2 ?_
        have I2 : Inv X pins σ H1 { s1 with heap := s1.heap.push { cls := .type "range", data := .fields #[.int i t, .int j t', .int k t''] } } := I1.kept (t' := s1.toks) fun b o e => Heap.get?_push_of_some _ e
        refine pi_one (tk := s1.toks) I2 _ (turn_rangeC _ i k n) ?_ q
        have e1 : i + ((0 : Nat) : Int) * k = i := by simp
        have e2 : (n : Int) - ((0 : Nat) : Int) = Builtin.Range.rangeSize i j k := by rw [c3]; simp
        show IsRangeIter _ _ (i + ((0 : Nat) : Int) * k) ((n : Int) - ((0 : Nat) : Int)) k
        rw [e1, e2]
        exact Heap.get?_push_size _ rfl
end
/-- the list at a (n items at the start, which the loop leaves there), from its end -/
def Itv (K : PySem.W.Frag) (a : Addr) (n : Nat) : It :=
  ⟨fun i H => i < n ∧ ∃ (xs : List V) (x : V), SqL K H a xs ∧ xs[n - 1 - i]? = some x, fun i H x H' => H' = H ∧ ∀ xs, SqL K H a xs → xs[n - 1 - i]? = some x, fun i _ => n ≤ i⟩
theorem turn_rev {P : Program} {w : World} {K : PySem.W.Frag} {tg : Expr} (a it : Addr) (n : Nat) : Turn P w K tg (Itv K a n) [it] it (fun i h => i ≤ n ∧ h.IsRevIter it a ((n : Int) - 1 - (i : Nat))) where
  mem := by simp
  obj := fun i h st b hb => by
    have e : b = it := by simpa using hb
    subst e
    obtain ⟨_, o, e, c, d⟩ := st
    exact ⟨o, e, fun v z => by rw [d] at z; cases z⟩
  keep := fun i h h' st k => ⟨st.1, st.2.at fun o e => k it (by simp) o e⟩
  item := by
    intro X hP hw hK hc i pins s σ H E I hf st hg
    subst hP hw hK
    obtain ⟨hin, xs, x, hq, hx⟩ := hg
    obtain ⟨its, rv, p, hz⟩ := I.list hq
    obtain ⟨u, hu, ru⟩ := rv.get hx
    obtain ⟨f0, f1, f2, f3, f4, f5⟩ := hf it (by simp)
    obtain ⟨_, hit⟩ := st
    have e1 : (n : Int) - 1 - ((i : Nat) : Int) = ((n - 1 - i : Nat) : Int) := by omega
    rw [e1] at hit
    refine wpAny_pyNext_rev_item hit p.isList (x := u) (by simpa using hu) fun h' st' sb => ?_
    have e2 : ((n - 1 - i : Nat) : Int) - 1 = (n : Int) - 1 - ((i + 1 : Nat) : Int) := by omega
    rw [e2] at st'
    have I1 : Inv X pins σ H { s with heap := h' } := I.turned (t' := s.toks) (fun b o hb e => (sb.2 b hb).trans e) f0 f1 f3 f4 f5
    obtain ⟨o, e, c, d⟩ := id st'
    exact ⟨u, rfl, go_of (s := { s with heap := h' }) e c d (by decide) ⟨x, H, I1, ru, ⟨rfl, fun ys hy => by rw [I.list_inj hy hq]; exact hx⟩, ⟨hin, st'⟩, fun b hb => (hf b hb).1⟩⟩
  done := by
    intro X hP hw hK hc i pins s σ H E I hf st hg
    subst hP hw hK
    obtain ⟨f0, f1, f2, f3, f4, f5⟩ := hf it (by simp)
    obtain ⟨hin, hit⟩ := st
    have hge : n ≤ i := hg
    have e1 : (n : Int) - 1 - ((i : Nat) : Int) = -1 := by omega
    rw [e1] at hit
    exact wpAny_pyNext_rev_end (I.ok.hd hc) hit fun h' eb => ⟨rfl, I.turned (t' := s.toks) (fun b o hb e => eb b o hb e) f0 f1 f3 f4 f5⟩
  self := fun A i s Q E st h => wpAny_pyIter_revIter st.2 h
def iRev (K : PySem.W.Frag) (ta : TA) : TI := fun σ H R => ta σ H fun vs H1 => ∃ (a : Addr) (xs : List V), vs = [.ref a] ∧ SqL K H1 a xs ∧ R (Itv K a xs.length) H1
section
variable {X : Cx} {tg : Expr}
theorem pi_reversed {e : Expr} {ta : TA} {p pos : Pos} (hg : Gl X "reversed") (hm : X.mg "reversed" = none) (ha : PA X [e] ta) (hs : starEach [e] X.env = [(false, eval e X.env)] := by rfl) : PI X tg (.Call (.Name "reversed" p) [e] [] pos) (iRev X.K ta) := by
  intro pins s σ H R I h
  refine Call_ (ld_blt I hg hm boot_reversed5 (PyProof.Rows.callWith_type1 (thn (ha pos pins s σ H _ I h) fun us s1 ⟨vs, H1, I1, r1, q1⟩ => ?_) hs rfl))
  obtain ⟨a, xs, e, hq, q⟩ := q1
  subst e
  cases r1 with
  | cons r rr =>
    cases rr
    cases r
    obtain ⟨its, rv, p', hz⟩ := I1.list hq
    have hl := rv.length
    have e1 : ((its.toArray.size : Nat) : Int) - 1 = (xs.length : Int) - 1 - ((0 : Nat) : Int) := by simp only [List.size_toArray]; omega
    refine call_reversed_list p'.isList (wpAny_pyIter_revIter (l := a) (i := ((its.toArray.size : Nat) : Int) - 1) ⟨_, Heap.get?_push_size _ rfl, rfl, rfl⟩ ?_)
    refine pi_one (tk := s1.toks) I1 _ (turn_rev a _ xs.length) ⟨Nat.zero_le _, ?_⟩ q
    rw [← e1]
    exact ⟨_, Heap.get?_push_size _ rfl, rfl, rfl⟩
end

section
variable {prog : Program} {w : World} {A : Around} {E : Value → Shared → Prop} {s : Shared}
end

section
variable {X : Cx} {pins : List (Addr × Obj)} {σ : St} {H : Hp} {s : Shared} {d : Addr} {o : Obj}
end

section
variable {P : Program} {w : World} {K : PySem.W.Frag} {tg : Expr} {d : Addr} {o : Obj} {es : Array DictEntry} {ep : Nat}
end

section
variable {X : Cx} {tg e : Expr} {td : TE} {apos cpos : Pos}
end

/-- the list at a as it stands at each turn, each item in a new pair -/
def Ite (K : PySem.W.Frag) (a : Addr) : It :=
  ⟨fun i H => ∃ (xs : List V) (x : V), SqL K H a xs ∧ xs[i]? = some x, fun i H v H' => ∃ T x, v = .ref T ∧ H T = none ∧ H' = upd H T (.tup [.int (i : Nat), x]) ∧ ∀ xs, SqL K H a xs → xs[i]? = some x, fun i H => ∃ xs : List V, SqL K H a xs ∧ xs.length ≤ i⟩
theorem turn_enum {P : Program} {w : World} {K : PySem.W.Frag} {elts : List Expr} {kk : Nat} {tpos : Pos} (a e it : Addr) :
    Turn P w K (.Tuple elts kk tpos) (Ite K a) [e, it] e (fun i h => (∃ old, IsEnum h e it ((i : Nat) : Int) old) ∧ h.IsListIter it a i ∧ e ≠ it) where
  mem := by simp
  obj := fun i h st b hb => by
    obtain ⟨⟨old, he⟩, ⟨o, ho, hc, hd⟩, _⟩ := st
    have e' : b = e ∨ b = it := by simpa using hb
    rcases e' with z | z
    · rw [z]; exact ⟨_, he, fun v q => nomatch q⟩
    · rw [z]; exact ⟨o, ho, fun v q => by rw [hd] at q; cases q⟩
  keep := fun i h h' st k => let ⟨⟨old, he⟩, hi, hne⟩ := st; ⟨⟨old, k e (by simp) _ he⟩, hi.at fun o q => k it (by simp) o q, hne⟩
  item := by
    intro X hP hw hK hc i pins s σ H E I hf st hg
    subst hP hw hK
    obtain ⟨⟨old, he⟩, hit, hne⟩ := st
    obtain ⟨xs, x, hq, hx⟩ := hg
    obtain ⟨its, rv, p, hz⟩ := I.list hq
    obtain ⟨u, hu, ru⟩ := rv.get hx
    have hel : e < s.heap.objs.size := Heap.lt_size he
    have hil : it < s.heap.objs.size := by obtain ⟨_, q, _⟩ := hit; exact Heap.lt_size q
    refine wpAny_pyNext_enum_item he hit p.isList (x := u) (by simpa using hu) hne fun h' ho hit' hT hsz hk => ?_
    refine ⟨_, rfl, wpAny_letOwnedTupleGo_enum (s := { s with heap := h', toks := s.toks + 1 }) ho fun h'' he' sb => ?_⟩
    have hT2 : h''.get? s.heap.objs.size = some { cls := .type "tuple", data := .seq #[.int i s.toks, u] } := (sb.2 _ (Nat.ne_of_gt hel)).trans hT
    have new : ObjOk X.prog X.w (upd H s.heap.objs.size (.tup [.int (i : Nat), x])) h'' s.heap.objs.size (.tup [.int (i : Nat), x]) :=
      ⟨by show 2 ≤ sizeLine; decide, [.int i s.toks, u], .cons ⟨_, rfl⟩ (.cons ru .nil), ⟨_, hT2, rfl, _, rfl⟩⟩
    have I1 : Inv X pins σ (upd H s.heap.objs.size (.tup [.int (i : Nat), x])) { s with heap := h'', toks := s.toks + 1 } :=
      I.turnedNew (ch := [e, it]) (fun b ob hb q => (sb.2 b (fun z => hb (by simp [z]))).trans (hk b ob (fun z => hb (by simp [z])) (fun z => hb (by simp [z])) q)) hf (Nat.le_refl _) new
    refine ⟨.ref s.heap.objs.size, _, I1, rfl, ⟨_, x, rfl, I.hok.fresh (Nat.le_refl _), rfl, fun ys hy => by rw [I.list_inj hy hq]; exact hx⟩, ⟨⟨u, ?_⟩, hit'.at fun o q => (sb.2 it (Ne.symm hne)).trans q, hne⟩, fun b hb => ?_⟩
    · have e1 : ((i + 1 : Nat) : Int) = (i : Int) + 1 := by omega
      rw [e1]; exact he'
    · have hb' : b < s.heap.objs.size := by
        have e' : b = e ∨ b = it := by simpa using hb
        rcases e' with z | z
        · rw [z]; exact hel
        · rw [z]; exact hil
      rw [upd_ne (Nat.ne_of_lt hb')]
      exact (hf b hb).1
  done := by
    intro X hP hw hK hc i pins s σ H E I hf st hg
    subst hP hw hK
    obtain ⟨⟨old, he⟩, hit, hne⟩ := st
    obtain ⟨xs, hq, hx⟩ := hg
    obtain ⟨its, rv, p, hz⟩ := I.list hq
    obtain ⟨f0, f1, f2, f3, f4, f5⟩ := hf it (by simp)
    have hl := rv.length
    exact wpAny_pyNext_enum_end (I.ok.hd hc) he hit p.isList (by simp; omega) fun h' eb => ⟨rfl, I.turned (t' := s.toks) (fun b o hb q => eb b o hb q) f0 f1 f3 f4 f5⟩
  self := fun A i s Q E st h => let ⟨⟨_, he⟩, _⟩ := st; wpAny_pyIter_enum he h
def iEnum (K : PySem.W.Frag) (ta : TA) : TI := fun σ H R => ta σ H fun vs H1 => ∃ a xs, vs = [.ref a] ∧ SqL K H1 a xs ∧ R (Ite K a) H1
theorem pi_enum {X : Cx} {e : Expr} {ta : TA} {p pos tpos : Pos} {elts : List Expr} {kk : Nat} (hg : Gl X "enumerate") (hm : X.mg "enumerate" = none) (ha : PA X [e] ta) (hs : starEach [e] X.env = [(false, eval e X.env)] := by rfl) :
    PI X (.Tuple elts kk tpos) (.Call (.Name "enumerate" p) [e] [] pos) (iEnum X.K ta) := by
  intro pins s σ H R I h
  refine Call_ (ld_blt I hg hm boot_enumerate (PyProof.Rows.callWith_type1 (thn (ha pos pins s σ H _ I h) fun us s1 ⟨vs, H1, I1, r1, q1⟩ => ?_) hs rfl))
  obtain ⟨a, xs, ex, hq, q⟩ := q1
  subst ex
  cases r1 with
  | cons r rr =>
    cases rr
    cases r
    obtain ⟨its, rv, p', hz⟩ := I1.list hq
    refine call_enumerate_list p'.isList fun h' he hit hsz hk => wpAny_pyIter_enum he ?_
    have I2 : Inv X pins σ H1 { s1 with heap := h' } := I1.kept (t' := s1.toks) hk
    refine ⟨s1.heap.objs.size + 1, [s1.heap.objs.size + 1, s1.heap.objs.size], _, _, H1, rfl, I2, turn_enum a (s1.heap.objs.size + 1) s1.heap.objs.size, ⟨⟨.none, he⟩, hit, Nat.succ_ne_self _⟩, fun b hb => ?_, q⟩
    have e' : b = s1.heap.objs.size + 1 ∨ b = s1.heap.objs.size := by simpa using hb
    have hle : s1.heap.objs.size ≤ b := by
      rcases e' with z | z
      · rw [z]; exact Nat.le_add_right _ _
      · rw [z]; exact Nat.le_refl _
    exact I1.fpOk hle (I1.hok.fresh hle)
end L2

section 
namespace Bits
open PySem PyProof.Rows

end Bits
end 

section 
namespace TL
open PySem PySem.Builtin PySem.Builtin.Str PySem.StrLaws

end TL
end 

namespace L2
open PySem PySem.Spec PyProof.Rows

section
variable {X : Cx} {pins : List (Addr × Obj)} {σ : St} {H : Hp} {s : Shared} {Q : VK}
end

section
variable {X : Cx}

end

section
variable {X : Cx} {o e : Expr} {to te : TE}
end
end L2

namespace L2
open PySem PySem.Spec PyProof.Rows

section
variable {X : Cx}
end

end L2

namespace Att
open PySem PySem.W PySem.Calls PyProof.Rows

section
variable {prog : Program} {w : World} {A : Around} {E : Value → Shared → Prop} {s : Shared} {K : Frag}

end
end Att

namespace L2
open PySem PySem.Spec PyProof.Rows

end L2
namespace L2
open PySem PySem.Spec PyProof.Rows

/-- the j-th statement of a class's body -/
def inClass (s : Stmt) (j : Nat) : Stmt := match s with
  | .ClassDef _ _ _ body _ _ _ _ _ _ _ => body.getD j (.Pass ⟨0, 0, 0, 0⟩)
  | _ => .Pass ⟨0, 0, 0, 0⟩
def defArgs (s : Stmt) : Arguments := match s with
  | .FunctionDef _ a _ _ _ _ _ _ _ _ => a
  | _ => { posonlyargs := [], args := [], vararg := none, kwonlyargs := [], kw_defaults := [], kwarg := none, defaults := [] }
def defBody (s : Stmt) : List Stmt := match s with
  | .FunctionDef _ _ b _ _ _ _ _ _ _ => b
  | _ => []
def defScope (s : Stmt) : Scope := match s with
  | .FunctionDef _ _ _ _ _ _ sc _ _ _ => sc
  | _ => { kind := .function, names := [], isGenerator := false, isCoroutine := false }

abbrev CX0 : CXT := fun _ _ _ _ _ _ => False
abbrev E0 : XK := fun _ _ _ => False
theorem pass0 {X : Cx} : Passes CX0 X E0 := fun _ _ _ _ _ _ _ h => h.elim

structure Fun (K : PySem.W.Frag) (x qual : Str) (st : Stmt) (f : Addr) (fd : FuncData) : Prop where
  ex : ∃ (oc : Value) (od : Option Addr) (kV doc pm : Value) (an : Option Addr) (cdv ct : Value) (osl : Array (Option Value)),
    fd = PySem.W.fnOf x qual (defArgs st) (defBody st) (defScope st) .none kV doc pm an cdv ct ∧ K.lookup f = some ⟨oc, od, .func fd, osl⟩ ∧ PySem.W.codeIn K cdv qual = true
  kp : PySem.W.keepIn K (.ref f) = true
section
variable {P : Program} {w : World} {K : PySem.W.Frag} {mg : Str → Option Value} {base : Heap}
/-- THE RULE for a def: its body as a term of rules, and the reading of that term -/
theorem Fun.ok {x qual : Str} {st : Stmt} {f : Addr} {fd : FuncData} {N ps : List Str} {k : Nat} {sp : Sp} (F : Fun K x qual st f fd) (S : FnScope N ps (defScope st)) (len : ∀ vs H Q E, sp vs H Q E → vs.length = ps.length)
    (hbody : ∀ (cdv : Value) (A : Around) (outer : List Env) (s : Shared) (H : Hp) (vs : List V) (Q : VK) (E : XK), Room k (A.deeper (envOfC qual (defScope st) s.heap.objs.size f cdv)) → sp vs H Q E →
      ∃ t, PSs (cxOf CX0 P w K mg base N qual (defScope st) f cdv A outer s H E).nox (defBody st) t ∧ t { nx := fun _ H' => Q .non H', rt := Q } (start N vs) H) : FnOk P w K mg base CX0 (k + 1) f fd ps sp := by
  obtain ⟨oc, od, kV, doc, pm, an, cdv, ct, osl, rfl, lk, hcd⟩ := F.ex
  refine fn_of lk hcd S len fun A outer s H vs Q E hr hsp => ?_
  obtain ⟨t, h, q⟩ := hbody cdv A outer s H vs Q E hr hsp
  exact ⟨t, h.nox, q⟩
/-- how its arguments bind (no defaults): h is «fun _ _ _ _ _ _ us hl => match us, hl with | [_, _], _ => rfl», one _ a parameter -/
theorem Fun.binds {x qual : Str} {st : Stmt} {f : Addr} {fd : FuncData} {ps : List Str} (F : Fun K x qual st f fd)
    (h : ∀ (kV doc pm : Value) (an : Option Addr) (cdv ct : Value) (us : List Value), us.length = ps.length → bindArgs (PySem.W.fnOf x qual (defArgs st) (defBody st) (defScope st) .none kV doc pm an cdv ct) ⟨us, []⟩ = pure (ps.zip us)) : Binds K fd ps [] := by
  obtain ⟨oc, od, kV, doc, pm, an, cdv, ct, osl, rfl, lk, hcd⟩ := F.ex
  exact .all (h kV doc pm an cdv ct)
theorem fun_mk {x qual : Str} {st : Stmt} {f : Addr} {oc : Value} {od an : Option Addr} {osl : Array (Option Value)} {kV doc pm cdv ct : Value} (l : K.lookup f = some ⟨oc, od, .func (PySem.W.fnOf x qual (defArgs st) (defBody st) (defScope st) .none kV doc pm an cdv ct), osl⟩)
    (c : PySem.W.codeIn K cdv qual = true) (k : PySem.W.keepIn K (.ref f) = true) : Fun K x qual st f (PySem.W.fnOf x qual (defArgs st) (defBody st) (defScope st) .none kV doc pm an cdv ct) := ⟨⟨oc, od, kV, doc, pm, an, cdv, ct, osl, rfl, l, c⟩, k⟩
end
section
variable {X : Cx}
theorem pv (i : Nat) {x : Str} {pos : Pos} (hN : X.N[i]? = some x := by rfl) (hv : Vis X.env.scope x := by first | exact Or.inl rfl | exact Or.inr (Or.inl rfl) | exact Or.inr (Or.inr rfl)) (hd : (x == ("__debug__" : Str)) = false := by decide)
    (hcd : (x == ("__classdict__" : Str)) = false := by decide) : PE X (.Name x pos) (tVar i) := pe_var hN hv hd hcd
end

/-- all that was tracked is as it was -/
def Same (H H' : Hp) : Prop := ∀ b o, H b = some o → H' b = some o
theorem Same.refl (H : Hp) : Same H H := fun _ _ h => h
theorem Same.trans {H H1 H2 : Hp} (a : Same H H1) (b : Same H1 H2) : Same H H2 := fun c o h => b c o (a c o h)
theorem Same.free {H H' : Hp} (e : Same H H') {l : Addr} (h : H' l = Option.none) : H l = Option.none := by
  cases q : H l with
  | none => rfl
  | some o =>
    rw [e l o q] at h
    cases h
theorem Same.seq {K : PySem.W.Frag} {H H' : Hp} {a : Addr} {xs : List V} (e : Same H H') (h : SqL K H a xs) : SqL K H' a xs := by
  rcases h with (h | ⟨o, h⟩) | h
  · exact .inl (.inl (e _ _ h))
  · exact .inl (.inr ⟨o, e _ _ h⟩)
  · exact .inr h

section
variable {κ : Type} [DecidableEq κ]
end
end L2

end
section
set_option Elab.async false
set_option linter.all false
set_option maxRecDepth 100000
set_option maxHeartbeats 2000000
namespace L2
open PySem PySem.Spec PyProof.Rows
open PySem.W (WData Codec OpenSpec Well WellAll ReadsW ReadsAllW)
mutual
/-- x stands for the datum d, lists and tuples all the way -/
inductive Dw (K : PySem.W.Frag) (H : Hp) : V → WData → Prop
  | non : Dw K H .non .none
  | bl (b : Bool) : Dw K H (.bl b) (.bool b)
  | int (i : Int) : Dw K H (.int i) (.int i)
  | str (x : Str) : Dw K H (.str x) (.str x)
  | byt (b : Array UInt8) : Dw K H (.byt b) (.bytes b.toList)
  | lst {a : Addr} {xs : List V} {ds : List WData} : SqL K H a xs → DwAll K H xs ds → Dw K H (.ref a) (.list ds)
  | tup {a : Addr} {xs : List V} {ds : List WData} : SqT K H a xs → DwAll K H xs ds → Dw K H (.ref a) (.tuple ds)
inductive DwAll (K : PySem.W.Frag) (H : Hp) : List V → List WData → Prop
  | nil : DwAll K H [] []
  | cons {v : V} {vs : List V} {d : WData} {ds : List WData} : Dw K H v d → DwAll K H vs ds → DwAll K H (v :: vs) (d :: ds)
end
theorem ints_dw {K : PySem.W.Frag} {H : Hp} : ∀ (ns : List Int) (xs : List V), DwAll K H xs (ns.map WData.int) → xs = ns.map V.int
  | [], xs, h => by
    cases h
    rfl
  | n :: r, xs, h => by
    cases h with
    | cons h1 h2 =>
      cases h1
      rw [ints_dw r _ h2] <;> rfl
section
variable {P : Program} {w : World} {K : PySem.W.Frag} {H : Hp} {h : Heap} {R : PySem.W.WRecords} {cl : Str → Option Addr}
theorem sqL_at {a : Addr} {xs : List V} (hok : HOk P w H h) (KX : K.In h) (q : SqL K H a xs) : ∃ (its : List Value) (o : Obj) (n : Nat), Vals xs its ∧ h.get? a = some o ∧ o.cls = .type "list" ∧ o.data = .seq its.toArray n := by
  rcases q with q | ⟨o, its, n, e, hc, _, hd, _, hv⟩
  · obtain ⟨_, its, n, hv, e⟩ := (show ObjOk P w H h a (.lst xs) from q.ok hok)
    exact ⟨its, _, n, hv, e, rfl, rfl⟩
  · exact ⟨its.toList, o, n, hv, KX _ _ e, hc, by simp [hd]⟩
theorem sqT_at {a : Addr} {xs : List V} (hok : HOk P w H h) (KX : K.In h) (q : SqT K H a xs) : ∃ (its : List Value) (o : Obj) (n : Nat), Vals xs its ∧ h.get? a = some o ∧ o.cls = .type "tuple" ∧ o.data = .seq its.toArray n := by
  rcases q with q | ⟨o, its, n, e, hc, hd, _, hv⟩
  · obtain ⟨_, its, hv, o, e, hc, n, hd⟩ := (show ObjOk P w H h a (.tup xs) from q.ok hok)
    exact ⟨its, o, n, hv, e, hc, hd⟩
  · exact ⟨its.toList, o, n, hv, KX _ _ e, hc, by simp [hd]⟩
mutual
theorem Dw.reads (hok : HOk P w H h) (KX : K.In h) : ∀ (d : WData) (v : V) (u : Value), Dw K H v d → RelV v u → ∃ as, ReadsW R cl h u d as
  | .none, _, _, x, r => by
    cases x
    cases r
    exact ⟨_, ReadsW.none⟩
  | .bool b, _, _, x, r => by
    cases x
    cases r
    exact ⟨_, ReadsW.bool b⟩
  | .int i, _, _, x, r => by
    cases x
    obtain ⟨t, rfl⟩ := r
    exact ⟨_, ReadsW.int i t⟩
  | .str s, _, _, x, r => by
    cases x
    obtain ⟨t, rfl⟩ := r
    exact ⟨_, ReadsW.str s t⟩
  | .bytes b, _, _, x, r => by
    cases x
    obtain ⟨t, rfl⟩ := r
    exact ⟨_, ReadsW.bytes _ t⟩
  | .list ds, _, _, x, r => by
    cases x with
    | lst hs ha =>
      cases r
      obtain ⟨its, o, n, rv, ho, hc, hd⟩ := sqL_at hok KX hs
      obtain ⟨as, hr⟩ := Dw.readsAll hok KX ds _ its ha rv
      exact ⟨_, ReadsW.list ho hc hd hr⟩
  | .tuple ds, _, _, x, r => by
    cases x with
    | tup hs ha =>
      cases r
      obtain ⟨its, o, n, rv, ho, hc, hd⟩ := sqT_at hok KX hs
      obtain ⟨as, hr⟩ := Dw.readsAll hok KX ds _ its ha rv
      exact ⟨_, ReadsW.tuple ho hc hd hr⟩
  | .float _, _, _, x, _ => by cases x
  | .dict _, _, _, x, _ => by cases x
  | .bytearray _, _, _, x, _ => by cases x
  | .set _, _, _, x, _ => by cases x
  | .frozenset _, _, _, x, _ => by cases x
  | .obj _ _, _, _, x, _ => by cases x
theorem Dw.readsAll (hok : HOk P w H h) (KX : K.In h) : ∀ (ds : List WData) (vs : List V) (us : List Value), DwAll K H vs ds → Vals vs us → ∃ as, ReadsAllW R cl h us ds as
  | [], _, _, x, r => by
    cases x
    cases r
    exact ⟨_, ReadsAllW.nil⟩
  | d :: ds, _, _, x, r => by
    cases x with
    | cons h1 h2 =>
      cases r with
      | cons r1 r2 =>
        obtain ⟨as, q1⟩ := Dw.reads hok KX d _ _ h1 r1
        obtain ⟨bs, q2⟩ := Dw.readsAll hok KX ds _ _ h2 r2
        exact ⟨_, ReadsAllW.cons q1 q2⟩
end
end
mutual
/-- data that a codec tells -/
def plW : WData → Bool
  | .none => true
  | .bool _ => true
  | .int _ => true
  | .str _ => true
  | .bytes _ => true
  | .list xs => plWs xs
  | .tuple xs => plWs xs
  | _ => false
def plWs : List WData → Bool
  | [] => true
  | x :: r => plW x && plWs r
end
theorem plWs_map {α : Type} {f : α → WData} (h : ∀ a, plW (f a) = true) : ∀ l : List α, plWs (l.map f) = true
  | [] => rfl
  | x :: r => by
    show (plW (f x) && plWs (r.map f)) = true
    rw [h x, plWs_map h r] <;> rfl
theorem pl_enc : ∀ (c : Codec) (a : c.denote), plW (c.enc a) = true
  | .unit, _ => rfl
  | .bool, _ => rfl
  | .int _ _, _ => rfl
  | .nat _ _, _ => rfl
  | .u8, _ => rfl
  | .bytes _ _, _ => rfl
  | .text _ _ _ _, _ => rfl
  | .list _ _ c, a => plWs_map (fun x => pl_enc c x) a
  | .pair c d, a => by
    show (plW (c.enc a.1) && (plW (d.enc a.2) && true)) = true
    rw [pl_enc c a.1, pl_enc d a.2] <;> rfl
  | .triple c d e, a => by
    show (plW (c.enc a.1) && (plW (d.enc a.2.1) && (plW (e.enc a.2.2) && true))) = true
    rw [pl_enc c a.1, pl_enc d a.2.1, pl_enc e a.2.2] <;> rfl
  | .option c, none => rfl
  | .option c, some x => pl_enc c x
theorem pl_encAll : ∀ (cs : List Codec) (a : Codec.denoteAll cs), plWs (Codec.encAll cs a) = true
  | [], _ => rfl
  | c :: cs, a => by
    show (plW (c.enc a.1) && plWs (Codec.encAll cs a.2)) = true
    rw [pl_enc c a.1, pl_encAll cs a.2] <;> rfl
theorem weight_mem : ∀ {xs : List WData} {d : WData}, d ∈ xs → d.weight ≤ WData.weightAll xs
  | [], d, h => absurd h (by simp)
  | x :: r, d, h => by
    show d.weight ≤ x.weight + 1 + WData.weightAll r
    rcases List.mem_cons.mp h with e | m
    · rw [e]
      omega
    · have z := weight_mem m
      omega
def toV : Value → V
  | .none => .non
  | .bool b => .bl b
  | .int i _ => .int i
  | .str x _ => .str x
  | .bytes b _ => .byt b
  | .ref a => .ref a
  | _ => .non
/-- a value of the arguments, its objects among A -/
def OkU (A : List Addr) : Value → Prop
  | .none => True
  | .bool _ => True
  | .int _ _ => True
  | .str _ _ => True
  | .bytes _ _ => True
  | .ref a => a ∈ A
  | _ => False
theorem OkU.mono {A B : List Addr} (h : ∀ a ∈ A, a ∈ B) : ∀ {u : Value}, OkU A u → OkU B u := fun {u} x => by
  cases u with
  | ref a => exact h a x
  | none => trivial
  | bool b => trivial
  | int i t => trivial
  | str s t => trivial
  | bytes b t => trivial
  | _ => exact False.elim x
theorem relV_toV {A : List Addr} {u : Value} (x : OkU A u) : RelV (toV u) u := by
  cases u with
  | ref a => rfl
  | none => rfl
  | bool b => rfl
  | int i t => exact ⟨t, rfl⟩
  | str s t => exact ⟨t, rfl⟩
  | bytes b t => exact ⟨t, rfl⟩
  | _ => exact False.elim x
theorem vals_toV {A : List Addr} : ∀ {vs : List Value}, (∀ u ∈ vs, OkU A u) → Vals (vs.map toV) vs
  | [], _ => .nil
  | u :: r, h => .cons (relV_toV (h u (List.mem_cons_self ..))) (vals_toV fun x hx => h x (List.mem_cons_of_mem _ hx))
/-- an object of the arguments -/
def ArgOb (h : Heap) (A : List Addr) (a : Addr) : Prop := ∃ vs : List Value, vs.length ≤ sizeLine ∧ (∀ u ∈ vs, OkU A u) ∧
  (h.get? a = some { cls := .type "list", data := .seq vs.toArray } ∨ h.get? a = some { cls := .type "tuple", data := .seq vs.toArray })
theorem ArgOb.mono {h : Heap} {A B : List Addr} {a : Addr} (k : ∀ a ∈ A, a ∈ B) (x : ArgOb h A a) : ArgOb h B a := by
  obtain ⟨vs, h1, h2, h3⟩ := x
  exact ⟨vs, h1, fun u hu => (h2 u hu).mono k, h3⟩
theorem wellAll_len {P : Params} {h : Heap} : ∀ {vs : List Value} {ds : List WData}, WellAll P h vs ds → vs.length = ds.length
  | _, _, .nil => rfl
  | _, _, .cons _ b => by
    show _ + 1 = _ + 1
    rw [wellAll_len b]
theorem well_list {P : Params} {h : Heap} {v : Value} {ds : List WData} (x : Well P h v (.list ds)) : ∃ (a : Addr) (vs : List Value), v = .ref a ∧ h.get? a = some { cls := .type "list", data := .seq vs.toArray } ∧ WellAll P h vs ds := by
  cases x with
  | list ho hall => exact ⟨_, _, rfl, ho, hall⟩
theorem well_tuple {P : Params} {h : Heap} {v : Value} {ds : List WData} (x : Well P h v (.tuple ds)) : ∃ (a : Addr) (vs : List Value), v = .ref a ∧ h.get? a = some { cls := .type "tuple", data := .seq vs.toArray } ∧ WellAll P h vs ds := by
  cases x with
  | tuple ho hall => exact ⟨_, _, rfl, ho, hall⟩
theorem well_cons {P : Params} {h : Heap} {us : List Value} {d : WData} {ds : List WData} (x : WellAll P h us (d :: ds)) : ∃ (v : Value) (vs : List Value), us = v :: vs ∧ Well P h v d ∧ WellAll P h vs ds := by
  cases x with
  | cons a b => exact ⟨_, _, rfl, a, b⟩
theorem line_of {n : Nat} (h : n ≤ 1048576) : n ≤ sizeLine := Nat.le_trans h (by decide)
section
variable {P : Params} {h : Heap}
mutual
theorem area_one : ∀ (d : WData) (v : Value), Well P h v d → plW d = true → d.weight ≤ 1048576 → ∃ A : List Addr, OkU A v ∧ ∀ a ∈ A, ArgOb h A a
  | .none, _, x, _, _ => by
    cases x
    exact ⟨[], trivial, fun a m => absurd m (by simp)⟩
  | .bool b, _, x, _, _ => by
    cases x
    exact ⟨[], trivial, fun a m => absurd m (by simp)⟩
  | .int i, _, x, _, _ => by
    cases x
    exact ⟨[], trivial, fun a m => absurd m (by simp)⟩
  | .str s, _, x, _, _ => by
    cases x
    exact ⟨[], trivial, fun a m => absurd m (by simp)⟩
  | .bytes b, _, x, _, _ => by
    cases x
    exact ⟨[], trivial, fun a m => absurd m (by simp)⟩
  | .list ds, _, x, p, z => by
    obtain ⟨a, vs, rfl, ho, hall⟩ := well_list x
    have z2 : WData.weightAll ds ≤ 1048576 := z
    obtain ⟨A, h1, h2⟩ := area_all ds _ hall p fun d hd => Nat.le_trans (weight_mem hd) z2
    have k : ∀ b ∈ A, b ∈ a :: A := fun b hb => List.mem_cons_of_mem _ hb
    refine ⟨a :: A, List.mem_cons_self .., fun b hb => ?_⟩
    rcases List.mem_cons.mp hb with e | m
    · rw [e]
      exact ⟨vs, line_of (by rw [wellAll_len hall]; exact Nat.le_trans (PySem.W.length_le_weightAllW ds) z2), fun u hu => (h1 u hu).mono k, .inl ho⟩
    · exact (h2 b m).mono k
  | .tuple ds, _, x, p, z => by
    obtain ⟨a, vs, rfl, ho, hall⟩ := well_tuple x
    have z2 : WData.weightAll ds ≤ 1048576 := z
    obtain ⟨A, h1, h2⟩ := area_all ds _ hall p fun d hd => Nat.le_trans (weight_mem hd) z2
    have k : ∀ b ∈ A, b ∈ a :: A := fun b hb => List.mem_cons_of_mem _ hb
    refine ⟨a :: A, List.mem_cons_self .., fun b hb => ?_⟩
    rcases List.mem_cons.mp hb with e | m
    · rw [e]
      exact ⟨vs, line_of (by rw [wellAll_len hall]; exact Nat.le_trans (PySem.W.length_le_weightAllW ds) z2), fun u hu => (h1 u hu).mono k, .inr ho⟩
    · exact (h2 b m).mono k
  | .float _, _, _, p, _ => Bool.noConfusion (show false = true from p)
  | .dict _, _, _, p, _ => Bool.noConfusion (show false = true from p)
  | .bytearray _, _, _, p, _ => Bool.noConfusion (show false = true from p)
  | .set _, _, _, p, _ => Bool.noConfusion (show false = true from p)
  | .frozenset _, _, _, p, _ => Bool.noConfusion (show false = true from p)
  | .obj _ _, _, _, p, _ => Bool.noConfusion (show false = true from p)
theorem area_all : ∀ (ds : List WData) (vs : List Value), WellAll P h vs ds → plWs ds = true → (∀ d ∈ ds, d.weight ≤ 1048576) → ∃ A : List Addr, (∀ u ∈ vs, OkU A u) ∧ ∀ a ∈ A, ArgOb h A a
  | [], _, x, _, _ => by
    cases x
    exact ⟨[], fun u m => absurd m (by simp), fun a m => absurd m (by simp)⟩
  | d :: ds, _, x, p, z => by
    obtain ⟨v, vs, rfl, x1, x2⟩ := well_cons x
    have q : plW d = true ∧ plWs ds = true := Bool.and_eq_true_iff.mp p
    obtain ⟨A, a1, a2⟩ := area_one d v x1 q.1 (z d (List.mem_cons_self ..))
    obtain ⟨B, b1, b2⟩ := area_all ds vs x2 q.2 fun e he => z e (List.mem_cons_of_mem _ he)
    have kA : ∀ b ∈ A, b ∈ A ++ B := fun b hb => List.mem_append.mpr (.inl hb)
    have kB : ∀ b ∈ B, b ∈ A ++ B := fun b hb => List.mem_append.mpr (.inr hb)
    refine ⟨A ++ B, fun u hu => ?_, fun b hb => ?_⟩
    · rcases List.mem_cons.mp hu with e | m
      · rw [e]
        exact a1.mono kA
      · exact (b1 u m).mono kB
    · rcases List.mem_append.mp hb with m | m
      · exact (a2 b m).mono kA
      · exact (b2 b m).mono kB
end
end
/-- what is tracked of an argument's object -/
def hoOf (o : Obj) : Option HO := match o.data with
  | .seq vs _ => if (o.cls == Value.type "list") = true then some (.frz o (.lst (vs.toList.map toV))) else some (.frz o (.tup (vs.toList.map toV)))
  | _ => none
def argH (K : PySem.W.Frag) (h : Heap) (A : List Addr) : Hp := fun b => if b ∈ A then (if (K.lookup b).isNone = true then (h.get? b).bind hoOf else none) else none
/-- nothing is tracked but what is known to the object -/
def OnlyF (H : Hp) : Prop := ∀ b, H b = none ∨ ∃ o u, H b = some (.frz o u)
theorem hoOf_lst (vs : List Value) : hoOf { cls := .type "list", data := .seq vs.toArray } = some (.frz { cls := .type "list", data := .seq vs.toArray } (.lst (vs.map toV))) := by
  show (if (Value.type "list" == Value.type "list") = true then some (HO.frz { cls := .type "list", data := .seq vs.toArray } (.lst (vs.toArray.toList.map toV))) else some (HO.frz { cls := .type "list", data := .seq vs.toArray } (.tup (vs.toArray.toList.map toV)))) = _
  rw [if_pos (beq_self_eq_true _)]
theorem hoOf_tup (vs : List Value) : hoOf { cls := .type "tuple", data := .seq vs.toArray } = some (.frz { cls := .type "tuple", data := .seq vs.toArray } (.tup (vs.map toV))) := by
  show (if (Value.type "tuple" == Value.type "list") = true then some (HO.frz { cls := .type "tuple", data := .seq vs.toArray } (.lst (vs.toArray.toList.map toV))) else some (HO.frz { cls := .type "tuple", data := .seq vs.toArray } (.tup (vs.toArray.toList.map toV)))) = _
  rw [if_neg (by decide)]
section
variable {P : Program} {w : World} {K : PySem.W.Frag} {h : Heap} {A : List Addr}
theorem argH_at {b : Addr} {o : Obj} (hb : b ∈ A) (hk : K.lookup b = none) (e : h.get? b = some o) : argH K h A b = hoOf o := by
  unfold argH
  rw [if_pos hb, hk, if_pos (show (none : Option Obj).isNone = true from rfl), e] <;> rfl
theorem of_argH {b : Addr} {u : HO} (q : argH K h A b = some u) : b ∈ A ∧ K.lookup b = none := by
  unfold argH at q
  by_cases hb : b ∈ A
  · rw [if_pos hb] at q
    cases hk : K.lookup b with
    | none => exact ⟨hb, rfl⟩
    | some o =>
      rw [hk, if_neg (by simp)] at q
      cases q
  · rw [if_neg hb] at q
    cases q
/-- what stands tracked -/
theorem argH_is (ar : ∀ a ∈ A, ArgOb h A a) {b : Addr} {u : HO} (q : argH K h A b = some u) : K.lookup b = none ∧ ∃ vs : List Value, vs.length ≤ sizeLine ∧ (∀ u ∈ vs, OkU A u) ∧
    ((h.get? b = some { cls := .type "list", data := .seq vs.toArray } ∧ u = .frz { cls := .type "list", data := .seq vs.toArray } (.lst (vs.map toV))) ∨
     (h.get? b = some { cls := .type "tuple", data := .seq vs.toArray } ∧ u = .frz { cls := .type "tuple", data := .seq vs.toArray } (.tup (vs.map toV)))) := by
  obtain ⟨hb, hk⟩ := of_argH q
  obtain ⟨vs, h1, h2, h3⟩ := ar b hb
  refine ⟨hk, vs, h1, h2, ?_⟩
  rcases h3 with e | e
  · rw [argH_at hb hk e, hoOf_lst] at q
    exact .inl ⟨e, (Option.some.inj q).symm⟩
  · rw [argH_at hb hk e, hoOf_tup] at q
    exact .inr ⟨e, (Option.some.inj q).symm⟩
theorem argH_only (ar : ∀ a ∈ A, ArgOb h A a) : OnlyF (argH K h A) := fun b => by
  cases q : argH K h A b with
  | none => exact .inl rfl
  | some u =>
    obtain ⟨_, vs, _, _, ⟨_, e⟩ | ⟨_, e⟩⟩ := argH_is ar q
    · exact .inr ⟨_, _, by rw [e]⟩
    · exact .inr ⟨_, _, by rw [e]⟩
theorem argH_ok (ar : ∀ a ∈ A, ArgOb h A a) : HOk P w (argH K h A) h := fun b u q => by
  obtain ⟨_, vs, h1, h2, ⟨e, rfl⟩ | ⟨e, rfl⟩⟩ := argH_is ar q
  · exact ⟨e, by rw [List.length_map]; exact h1, vs, _, vals_toV h2, e⟩
  · exact ⟨e, by rw [List.length_map]; exact h1, vs, vals_toV h2, _, e, rfl, _, rfl⟩
theorem seq_inj {c c' : Value} {vs us : List Value} (e : (some { cls := c, data := .seq vs.toArray } : Option Obj) = some { cls := c', data := .seq us.toArray }) : c = c' ∧ vs = us := by
  have e1 := Option.some.inj e
  have e2 : c = c' := congrArg Obj.cls e1
  have e3 : Data.seq vs.toArray = Data.seq us.toArray := congrArg Obj.data e1
  injection e3 with e4
  refine ⟨e2, ?_⟩
  have e5 := congrArg Array.toList e4
  simpa using e5
/-- a list argument -/
theorem argL (KX : K.In h) (ar : ∀ a ∈ A, ArgOb h A a) {a : Addr} {vs : List Value} (ha : a ∈ A) (e : h.get? a = some { cls := .type "list", data := .seq vs.toArray }) : (∀ u ∈ vs, OkU A u) ∧ SqL K (argH K h A) a (vs.map toV) := by
  obtain ⟨us, h1, h2, h3⟩ := ar a ha
  have hu : us = vs := by
    rcases h3 with q | q
    · rw [e] at q
      exact (seq_inj q).2.symm
    · rw [e] at q
      exact absurd (Value.type.inj (seq_inj q).1) (by decide)
  subst hu
  refine ⟨h2, ?_⟩
  cases hk : K.lookup a with
  | none => exact .inl (.inr ⟨_, by rw [argH_at ha hk e, hoOf_lst]⟩)
  | some o =>
    have e2 := KX a o hk
    rw [e] at e2
    obtain rfl := Option.some.inj e2
    exact .inr ⟨_, us.toArray, _, hk, rfl, rfl, rfl, by rw [List.size_toArray]; exact h1, by simpa using vals_toV h2⟩
theorem argT (KX : K.In h) (ar : ∀ a ∈ A, ArgOb h A a) {a : Addr} {vs : List Value} (ha : a ∈ A) (e : h.get? a = some { cls := .type "tuple", data := .seq vs.toArray }) : (∀ u ∈ vs, OkU A u) ∧ SqT K (argH K h A) a (vs.map toV) := by
  obtain ⟨us, h1, h2, h3⟩ := ar a ha
  have hu : us = vs := by
    rcases h3 with q | q
    · rw [e] at q
      exact absurd (Value.type.inj (seq_inj q).1) (by decide)
    · rw [e] at q
      exact (seq_inj q).2.symm
  subst hu
  refine ⟨h2, ?_⟩
  cases hk : K.lookup a with
  | none => exact .inl (.inr ⟨_, by rw [argH_at ha hk e, hoOf_tup]⟩)
  | some o =>
    have e2 := KX a o hk
    rw [e] at e2
    obtain rfl := Option.some.inj e2
    exact .inr ⟨_, us.toArray, _, hk, rfl, rfl, by rw [List.size_toArray]; exact h1, by simpa using vals_toV h2⟩
mutual
theorem dw_one {Pm : Params} (KX : K.In h) (ar : ∀ a ∈ A, ArgOb h A a) : ∀ (d : WData) (v : Value), Well Pm h v d → plW d = true → OkU A v → Dw K (argH K h A) (toV v) d
  | .none, _, x, _, _ => by
    cases x
    exact .non
  | .bool b, _, x, _, _ => by
    cases x
    exact .bl b
  | .int i, _, x, _, _ => by
    cases x
    exact .int i
  | .str s, _, x, _, _ => by
    cases x
    exact .str s
  | .bytes b, _, x, _, _ => by
    cases x
    have z := Dw.byt (K := K) (H := argH K h A) b.toArray
    exact z
  | .list ds, _, x, p, hu => by
    obtain ⟨a, vs, rfl, ho, hall⟩ := well_list x
    obtain ⟨h2, hs⟩ := argL KX ar hu ho
    exact .lst hs (dw_all KX ar ds _ hall p h2)
  | .tuple ds, _, x, p, hu => by
    obtain ⟨a, vs, rfl, ho, hall⟩ := well_tuple x
    obtain ⟨h2, hs⟩ := argT KX ar hu ho
    exact .tup hs (dw_all KX ar ds _ hall p h2)
  | .float _, _, _, p, _ => Bool.noConfusion (show false = true from p)
  | .dict _, _, _, p, _ => Bool.noConfusion (show false = true from p)
  | .bytearray _, _, _, p, _ => Bool.noConfusion (show false = true from p)
  | .set _, _, _, p, _ => Bool.noConfusion (show false = true from p)
  | .frozenset _, _, _, p, _ => Bool.noConfusion (show false = true from p)
  | .obj _ _, _, _, p, _ => Bool.noConfusion (show false = true from p)
theorem dw_all {Pm : Params} (KX : K.In h) (ar : ∀ a ∈ A, ArgOb h A a) : ∀ (ds : List WData) (vs : List Value), WellAll Pm h vs ds → plWs ds = true → (∀ u ∈ vs, OkU A u) → DwAll K (argH K h A) (vs.map toV) ds
  | [], _, x, _, _ => by
    cases x
    exact .nil
  | d :: ds, _, x, p, hu => by
    obtain ⟨v, vs, rfl, x1, x2⟩ := well_cons x
    have q : plW d = true ∧ plWs ds = true := Bool.and_eq_true_iff.mp p
    exact .cons (dw_one KX ar d v x1 q.1 (hu _ (List.mem_cons_self ..))) (dw_all KX ar ds vs x2 q.2 fun u m => hu u (List.mem_cons_of_mem _ m))
end
end
theorem spec_call {P : Program} {w : World} {K : PySem.W.Frag} {mg mb : Str → Option Value} {CX : CXT} {k : Nat} {fa : Addr} {fd : FuncData} {ps : List Str} {sp : Sp} {s₁ : Shared} {vals : List Value} {ds : List WData} {R : PySem.W.WRecords} {cl : Str → Option Addr} {d0 : WData}
    (KX : K.In s₁.heap) (hns : s₁.heap.Ns mainGlobals mg) (hb : s₁.heap.Ns builtinsNs mb) (hbb : ∀ x : Str, x ≠ "__name__" → mb x = bootBuiltins x) (hlim : s₁.heap.NoLimit) (hseer : s₁.heap.NoSeer) (hg : s₁.gens = #[])
    (hwl : WellAll w.params s₁.heap vals ds) (hpl : plWs ds = true) (hwt : ∀ d ∈ ds, d.weight ≤ 1048576) (hr : Room k callerA)
    (F : ∀ base : Heap, K.In base → base.Ns mainGlobals mg → FnOk P w K mg base CX k fa fd ps sp) (hbind : ∀ (s : Shared) (us : List Value), us.length = ps.length → BindsTo s fd ⟨us, []⟩ (ps.zip us)) (hlen : ds.length = ps.length)
    (hsp : ∀ (H : Hp) (xs : List V), OnlyF H → DwAll K H xs ds → sp xs H (fun v H' => Dw K H' v d0) fun _ _ _ => False)
    (hCX : ∀ H e s', CX [] H s₁ (fun _ _ _ => False) e s' → False) :
    codeAny (model P w) callerA (.call (.ref fa) ⟨vals, []⟩) (fun r s' => ∃ u as, r = .ok (.ret u) ∧ ReadsW R cl s'.heap u d0 as ∧ OldK s₁.heap s'.heap ∧ s'.os = s₁.os ∧ AllBare s'.gens) s₁ := by
  obtain ⟨A, ho, ar⟩ := area_all ds vals hwl hpl hwt
  have hO : OnlyF (argH K s₁.heap A) := argH_only ar
  have hok : HOk P w (argH K s₁.heap A) s₁.heap := argH_ok ar
  have hS := dw_all KX ar ds vals hwl hpl ho
  have hV := vals_toV ho
  have hK : ∀ b u, argH K s₁.heap A b = some u → K.lookup b = none := fun b u q => (argH_is ar q).1
  have noA : ∀ {b : Addr} {o : Obj} {es : Array DictEntry} {ep : Nat}, s₁.heap.get? b = some o → o.data = .dict es ep → argH K s₁.heap A b = none := fun {b o es ep} e d => by
    cases q : argH K s₁.heap A b with
    | none => rfl
    | some u =>
      obtain ⟨_, vs, _, _, ⟨e2, _⟩ | ⟨e2, _⟩⟩ := argH_is ar q
      · rw [e2] at e
        cases e
        have d' : Data.seq vs.toArray _ = Data.dict es ep := d
        cases d'
      · rw [e2] at e
        cases e
        have d' : Data.seq vs.toArray _ = Data.dict es ep := d
        cases d'
  have noM : ∀ {b : Addr} {o : Obj}, s₁.heap.get? b = some o → o.cls = .type "module" → argH K s₁.heap A b = none := fun {b o} e d => by
    cases q : argH K s₁.heap A b with
    | none => rfl
    | some u =>
      obtain ⟨_, vs, _, _, ⟨e2, _⟩ | ⟨e2, _⟩⟩ := argH_is ar q
      · rw [e2] at e
        cases e
        exact absurd d (by simp)
      · rw [e2] at e
        cases e
        exact absurd d (by simp)
  generalize argH K s₁.heap A = H at hO hok hS hK noA noM
  have base_of : ∀ {b : Addr} {o : Obj}, s₁.heap.get? b = some o → H b = none → (hidT s₁.heap H).get? b = some o := fun e n => hidT_get e n
  have nsK : ∀ {b : Addr} {m : Str → Option Value}, s₁.heap.Ns b m → (hidT s₁.heap H).Ns b m := fun {b m} ⟨o, es, ep, e, d, r⟩ => ⟨o, es, ep, base_of e (noA e d), d, r⟩
  have nK : ∀ b o, K.lookup b = some o → H b = none := fun b o e => by
    cases q : H b with
    | none => rfl
    | some u =>
      rw [hK b u q] at e
      cases e
  have hKb : K.In (hidT s₁.heap H) := fun b o e => base_of (KX b o e) (nK b o e)
  have hM : Mod K mg (hidT s₁.heap H) := ⟨hKb, nsK hns, ⟨mb, nsK hb, hbb⟩, let ⟨mc, h1, h2⟩ := hlim; ⟨mc, nsK h1, h2⟩,
    ⟨let ⟨mc, a, b⟩ := hseer.statics; ⟨mc, nsK a, b⟩, let ⟨mc, a, b⟩ := hseer.mods; ⟨mc, nsK a, b⟩, let ⟨mc, a, b⟩ := hseer.imp; ⟨mc, nsK a, b⟩, let ⟨mg, bm, ob, a, b, c, d, e⟩ := hseer.main; ⟨mg, bm, ob, nsK a, b, base_of c (noM c d), d, e⟩⟩⟩
  have e0 : Env0 P w K mg (hidT s₁.heap H) callerA [] s₁ H := ⟨rfl, hM, fun b o e => of_hidT e, Nat.le_of_eq (hidT_size _ _), trivial, fun b hb => absurd (show b ∈ ([] : List Addr) from hb) (by simp), hok, .of_eq hg⟩
  have hl : vals.length = ps.length := by rw [wellAll_len hwl]; exact hlen
  refine codeAny_mono ((F _ hKb (nsK hns)).run callerA [] s₁ H ⟨vals, []⟩ vals (vals.map toV) _ _ hr e0 (hbind s₁ vals hl) hV (hsp H _ hO hS)) fun r s' x => ?_
  cases r with
  | error e => exact (hCX H e s' x).elim
  | ok fl =>
    cases fl with
    | next => exact False.elim x
    | brk => exact False.elim x
    | cont => exact False.elim x
    | ret u =>
      obtain ⟨v, H', os, bare, un, hok', r', q⟩ := x
      have kept : ∀ b o, s₁.heap.get? b = some o → s'.heap.get? b = some o := fun b o e => by
        cases q2 : H b with
        | none => exact un.keep b o e q2 (by intro z; exact absurd (show b ∈ ([] : List Addr) from z) (by simp)) (by simp)
        | some u2 =>
          rcases hO b with z | ⟨ob, u3, z⟩
          · rw [q2] at z
            cases z
          · have z2 := un.frzs b ob _ z
            obtain ⟨e1, _⟩ := hok b _ z
            obtain ⟨e2, _⟩ := hok' b _ z2
            rw [e] at e1
            cases e1
            exact e2
      have KX' : K.In s'.heap := fun b o e => kept b o (KX b o e)
      obtain ⟨as, hrd⟩ := Dw.reads (R := R) (cl := cl) hok' KX' d0 v u q r'
      exact ⟨u, as, rfl, hrd, OldK.of_keep kept, os, bare⟩
theorem layable_weight {ds : List WData} (h : WData.layableAll ds = true) : ∀ d ∈ ds, d.weight ≤ 1048576 := fun d hd =>
  (PySem.W.layableW_iff.mp (List.all_eq_true.mp h d hd)).2.2
theorem encAll_len : ∀ (cs : List Codec) (a : Codec.denoteAll cs), (Codec.encAll cs a).length = cs.length
  | [], _ => rfl
  | c :: cs, a => by
    show (Codec.encAll cs a.2).length + 1 = cs.length + 1
    rw [encAll_len cs a.2]
/-- the goal that k_headS leaves (case hc), from the promise of the row's def: whatever the arguments that the codecs let and the row asks for, the def gives what stands for enc (f ..) -/
theorem walk_spec {r : OpenSpec} {k : Nat} {q : Program} {loose : List Str} {XP : (Str → Option Value) → Heap → Prop} {YP : World → Heap → Prop} {d : DefRec} {K : Params → PySem.W.Frag} {CX : World → CXT} {ps : List Str} {sp : World → Sp}
    (himp : importsNone q = true) (hwell : r.wellSaid = true) (hdf : d.params.defaults = []) (hlen : r.args.length = ps.length) (hr : Room k callerA)
    (hY : ∀ (w : World) (h : Heap), YP w h → (K w.params).In h)
    (F : ∀ (w : World) (mg : Str → Option Value) (fa : Addr) (h : Heap), YP w h → (K w.params).In h → h.Ns mainGlobals mg → mg d.name = some (.ref fa) →
      ∃ fd : FuncData, (∀ (s : Shared) (us : List Value), us.length = ps.length → BindsTo s fd ⟨us, []⟩ (ps.zip us)) ∧
        ∀ base : Heap, (K w.params).In base → base.Ns mainGlobals mg → FnOk r.prog w (K w.params) mg base (CX w) k fa fd ps (sp w))
    (hsp : ∀ (w : World) (H : Hp) (xs : List V) (a : Codec.denoteAll r.args), OnlyF H → Codec.withinAll r.args a = true → Codec.app r.args r.asked a = true → DwAll (K w.params) H xs (Codec.encAll r.args a) →
      sp w xs H (fun v H' => Dw (K w.params) H' v (r.ret.enc (Codec.app r.args r.f a))) fun _ _ _ => False)
    (hCX : ∀ (w : World) (H : Hp) (s : Shared) (e : Value) (s' : Shared), CX w [] H s (fun _ _ _ => False) e s' → False) :
    PySem.W.WalkOS q loose XP YP r d [] (fun f vs => PySem.call f vs) := by
  intro w s_0 s₁ mg mb G Y fa o pm cd doc dV kV ho hd hcd hD hmg hg args vals as hpre hlay hrd hwl hlo
  obtain ⟨a, e1, e2⟩ := PySem.W.os_pre_some hpre
  obtain ⟨e3, hwi⟩ := Codec.encAll_of_decAll r.args args a e1
  subst e3
  have KX := hY w _ Y
  obtain ⟨fd, hb, hF⟩ := F w mg fa _ Y KX G.T.g hmg
  refine PySem.W.enter_call (codeAny_mono (spec_call (R := []) (cl := classAt s_0.heap) (d0 := r.ret.enc (Codec.app r.args r.f a)) KX G.T.g G.T.b G.T.builtins G.T.nolimit (G.T.seer himp) hg hwl (pl_encAll _ _) (layable_weight hlay) hr hF hb (by rw [encAll_len]; exact hlen)
    (fun H xs hO hS => hsp w H xs a hO hwi e2 hS) fun H e s' => hCX w H s₁ e s') fun r' s' hq => ?_)
  obtain ⟨u, as', rfl, h1, h2, h3, h4⟩ := hq
  exact ⟨.inl ⟨u, _, as', rfl, fun _ => rfl, h1, (OpenSpec.post_iff hwell hwi _ _).mpr rfl, fun z => Bool.noConfusion (show false = true from z)⟩, h2, h3, h4⟩
/-- the same where the promise hangs on the written part alone -/
theorem walk_specK {r : OpenSpec} {k : Nat} {q : Program} {loose : List Str} {XP : (Str → Option Value) → Heap → Prop} {YP : World → Heap → Prop} {d : DefRec} {K : Params → PySem.W.Frag} {CX : CXT} {ps : List Str} {sp : PySem.W.Frag → Sp}
    (himp : importsNone q = true) (hwell : r.wellSaid = true) (hdf : d.params.defaults = []) (hlen : r.args.length = ps.length) (hr : Room k callerA)
    (hY : ∀ (w : World) (h : Heap), YP w h → (K w.params).In h)
    (F : ∀ (w : World) (mg : Str → Option Value) (fa : Addr) (h : Heap), YP w h → (K w.params).In h → h.Ns mainGlobals mg → mg d.name = some (.ref fa) →
      ∃ fd : FuncData, (∀ (s : Shared) (us : List Value), us.length = ps.length → BindsTo s fd ⟨us, []⟩ (ps.zip us)) ∧
        ∀ base : Heap, (K w.params).In base → base.Ns mainGlobals mg → FnOk r.prog w (K w.params) mg base CX k fa fd ps (sp (K w.params)))
    (hsp : ∀ (K : PySem.W.Frag) (H : Hp) (xs : List V) (a : Codec.denoteAll r.args), OnlyF H → Codec.withinAll r.args a = true → Codec.app r.args r.asked a = true → DwAll K H xs (Codec.encAll r.args a) →
      sp K xs H (fun v H' => Dw K H' v (r.ret.enc (Codec.app r.args r.f a))) fun _ _ _ => False)
    (hCX : ∀ (H : Hp) (s : Shared) (e : Value) (s' : Shared), CX [] H s (fun _ _ _ => False) e s' → False) :
    PySem.W.WalkOS q loose XP YP r d [] (fun f vs => PySem.call f vs) :=
  walk_spec (K := K) (CX := fun _ => CX) (sp := fun w => sp (K w.params)) himp hwell hdf hlen hr hY F (fun w H xs a h1 h2 h3 h4 => hsp (K w.params) H xs a h1 h2 h3 h4) fun _ H s e s' => hCX H s e s'
end L2
end

section
set_option Elab.async false
set_option linter.all false
namespace EM
open PySem L2

structure Rp where
  P : Hp → V → Prop
  mono : ∀ {G G' : Hp} {v : V}, Same G G' → P G v → P G' v

def rV (u : V) : Rp := ⟨fun _ v => v = u, fun _ h => h⟩
abbrev rI' (i : Int) : Rp := rV (.int i)
abbrev rB (b : Bool) : Rp := rV (.bl b)

/-- values item by item -/
inductive Reps (G : Hp) : List Rp → List V → Prop
  | nil : Reps G [] []
  | cons {p : Rp} {ps : List Rp} {v : V} {vs : List V} (h : p.P G v) (t : Reps G ps vs) : Reps G (p :: ps) (v :: vs)
theorem Reps.mono {G G' : Hp} {ps : List Rp} {vs : List V} (s : Same G G') (h : Reps G ps vs) : Reps G' ps vs := by
  induction h with
  | nil => exact .nil
  | cons h _ ih => exact .cons (Rp.mono _ s h) ih
theorem Reps.length {G : Hp} {ps : List Rp} {vs : List V} (h : Reps G ps vs) : ps.length = vs.length := by
  induction h with
  | nil => rfl
  | cons _ _ ih => simp [ih]
theorem Reps.get {G : Hp} {ps : List Rp} {vs : List V} (h : Reps G ps vs) : ∀ {i : Nat} {p : Rp}, ps[i]? = some p → ∃ v, vs[i]? = some v ∧ p.P G v := by
  induction h with
  | nil => intro i p e; simp at e
  | cons h _ ih =>
    intro i p e
    cases i with
    | zero => simp at e; subst e; exact ⟨_, rfl, h⟩
    | succ i => simp at e; obtain ⟨v, e1, e2⟩ := ih e; exact ⟨v, by simpa using e1, e2⟩
theorem Reps.append {G : Hp} {ps qs : List Rp} {vs us : List V} (h : Reps G ps vs) (k : Reps G qs us) : Reps G (ps ++ qs) (vs ++ us) := by
  induction h with
  | nil => exact k
  | cons h _ ih => exact .cons h ih
theorem Reps.drop {G : Hp} {ps : List Rp} {vs : List V} (h : Reps G ps vs) : ∀ (i : Nat), Reps G (ps.drop i) (vs.drop i) := by
  induction h with
  | nil => intro i; simpa using Reps.nil
  | cons h t ih =>
    intro i
    cases i with
    | zero => exact .cons h t
    | succ i => exact ih i
theorem Reps.take {G : Hp} {ps : List Rp} {vs : List V} (h : Reps G ps vs) : ∀ (i : Nat), Reps G (ps.take i) (vs.take i) := by
  induction h with
  | nil => intro i; simpa using Reps.nil
  | cons h t ih =>
    intro i
    cases i with
    | zero => exact .nil
    | succ i => exact .cons h (ih i)
theorem Reps.rep {G : Hp} {ps : List Rp} {vs : List V} (h : Reps G ps vs) : ∀ (k : Nat), Reps G (List.replicate k ps).flatten (List.replicate k vs).flatten
  | 0 => .nil
  | k + 1 => by
    rw [List.replicate_succ, List.replicate_succ, List.flatten_cons, List.flatten_cons]
    exact h.append (Reps.rep h k)
/-- a list, a tuple of the program's own making -/
def rLst (ps : List Rp) : Rp := ⟨fun G v => ∃ a vs, v = .ref a ∧ G a = some (.lst vs) ∧ Reps G ps vs, fun s ⟨a, vs, e, h, r⟩ => ⟨a, vs, e, s _ _ h, r.mono s⟩⟩
def rTup (ps : List Rp) : Rp := ⟨fun G v => ∃ a vs, v = .ref a ∧ G a = some (.tup vs) ∧ Reps G ps vs, fun s ⟨a, vs, e, h, r⟩ => ⟨a, vs, e, s _ _ h, r.mono s⟩⟩
/-- a list of whole numbers that was handed in -/
def rArg (K : PySem.W.Frag) (ns : List Int) : Rp := ⟨fun G v => ∃ a, v = .ref a ∧ SqL K G a (ns.map V.int), fun s ⟨a, e, h⟩ => ⟨a, e, s.seq h⟩⟩

structure Ext (G H G' H' : Hp) : Prop where
  g : Same G G'
  h : Same H H'
  s : Same G' H'
  n : ∀ a, G a = none → H a ≠ none → G' a = none
theorem Ext.refl {G H : Hp} (s : Same G H) : Ext G H G H := ⟨Same.refl _, Same.refl _, s, fun _ h _ => h⟩
theorem Ext.trans {G H G1 H1 G2 H2 : Hp} (a : Ext G H G1 H1) (b : Ext G1 H1 G2 H2) : Ext G H G2 H2 :=
  ⟨a.g.trans b.g, a.h.trans b.h, b.s, fun c h1 h2 => b.n c (a.n c h1 h2) (fun z => h2 (a.h.free z))⟩
theorem same_upd {H : Hp} {a : Addr} {o : HO} (h : H a = none) : Same H (upd H a o) := fun b u e => by rw [upd_ne (ne_of_none e h)]; exact e
theorem same_upd2 {G H : Hp} {a : Addr} {o : HO} (s : Same G H) : Same (upd G a o) (upd H a o) := fun b u e => by
  by_cases z : b = a
  · subst z; rw [upd_same] at e ⊢; exact e
  · rw [upd_ne z] at e ⊢; exact s b u e
/-- a new object, shared -/
theorem Ext.new {G H : Hp} {a : Addr} {o : HO} (s : Same G H) (h : H a = none) : Ext G H (upd G a o) (upd H a o) :=
  ⟨same_upd (s.free h), same_upd h, same_upd2 s, fun b h1 h2 => by rw [upd_ne (fun z => h2 (by rw [z]; exact h))]; exact h1⟩

inductive Slot where
  | no
  | sh (p : Rp)
  | ow (ps : List Rp)
  | bo (ps : List Rp)
def SlotOk (H0 G H : Hp) (v : Option V) : Slot → Prop
  | .no => True
  | .sh p => ∃ u, v = some u ∧ p.P G u
  | .ow ps => ∃ a vs, v = some (.ref a) ∧ G a = none ∧ H0 a = none ∧ H a = some (.lst vs) ∧ Reps G ps vs
  | .bo ps => ∃ a vs, v = some (.ref a) ∧ G a = none ∧ H0 a = some (.lst vs) ∧ H a = some (.lst vs) ∧ Reps G ps vs
structure Fr (G0 H0 G H : Hp) (σ : St) (ρ : List Slot) : Prop where
  x : Ext G0 H0 G H
  len : σ.length = ρ.length
  sl : ∀ (i : Nat) (z : Slot), ρ[i]? = some z → SlotOk H0 G H ((σ[i]?).join) z
  ds : ∀ (i j : Nat) (ps qs : List Rp), i ≠ j → ρ[i]? = some (.ow ps) → ρ[j]? = some (.ow qs) → σ[i]? ≠ σ[j]?
theorem SlotOk.ext {H0 G H G' H' : Hp} {v : Option V} {z : Slot} (h : SlotOk H0 G H v z) (e : Ext G H G' H') : SlotOk H0 G' H' v z := by
  cases z with
  | no => trivial
  | sh p => obtain ⟨u, e1, e2⟩ := h; exact ⟨u, e1, p.mono e.g e2⟩
  | ow ps =>
    obtain ⟨a, vs, e1, e2, e3, e4, e5⟩ := h
    exact ⟨a, vs, e1, e.n a e2 (by rw [e4]; simp), e3, e.h _ _ e4, e5.mono e.g⟩
  | bo ps =>
    obtain ⟨a, vs, e1, e2, e3, e4, e5⟩ := h
    exact ⟨a, vs, e1, e.n a e2 (by rw [e4]; simp), e3, e.h _ _ e4, e5.mono e.g⟩
theorem Fr.ext {G0 H0 G H G' H' : Hp} {σ : St} {ρ : List Slot} (F : Fr G0 H0 G H σ ρ) (e : Ext G H G' H') : Fr G0 H0 G' H' σ ρ :=
  ⟨F.x.trans e, F.len, fun i z h => (F.sl i z h).ext e, F.ds⟩
theorem Fr.s {G0 H0 G H : Hp} {σ : St} {ρ : List Slot} (F : Fr G0 H0 G H σ ρ) : Same G H := F.x.s
theorem Fr.get {G0 H0 G H : Hp} {σ : St} {ρ : List Slot} (F : Fr G0 H0 G H σ ρ) {i : Nat} {p : Rp} (h : ρ[i]? = some (.sh p)) : ∃ v, σ[i]? = some (some v) ∧ p.P G v := by
  obtain ⟨u, e, q⟩ := F.sl i _ h
  cases z : σ[i]? with
  | none => rw [z] at e; cases e
  | some w => rw [z] at e; exact ⟨u, by rw [show w = some u from e], q⟩
theorem Fr.getO {G0 H0 G H : Hp} {σ : St} {ρ : List Slot} (F : Fr G0 H0 G H σ ρ) {i : Nat} {ps : List Rp} (h : ρ[i]? = some (.ow ps)) : ∃ a vs, σ[i]? = some (some (.ref a)) ∧ G a = none ∧ H0 a = none ∧ H a = some (.lst vs) ∧ Reps G ps vs := by
  obtain ⟨a, vs, e, q⟩ := F.sl i _ h
  cases z : σ[i]? with
  | none => rw [z] at e; cases e
  | some w => rw [z] at e; exact ⟨a, vs, by rw [show w = some (.ref a) from e], q⟩
theorem Fr.set {G0 H0 G H : Hp} {σ : St} {ρ : List Slot} (F : Fr G0 H0 G H σ ρ) (i : Nat) {p : Rp} {v : V} (h : p.P G v) : Fr G0 H0 G H (σ.set i (some v)) (ρ.set i (.sh p)) := by
  have key : ∀ (k : Nat) (ps : List Rp), (ρ.set i (.sh p))[k]? = some (.ow ps) → k ≠ i ∧ ρ[k]? = some (.ow ps) := fun k ps e => by
    by_cases z : k = i
    · subst z
      by_cases l : k < ρ.length
      · rw [List.getElem?_set_self l] at e; cases e
      · rw [List.getElem?_eq_none (by rw [List.length_set]; omega)] at e; cases e
    · rw [List.getElem?_set_ne (Ne.symm z)] at e; exact ⟨z, e⟩
  refine ⟨F.x, by simp [F.len], fun k z e => ?_, fun k l ps qs n e1 e2 => ?_⟩
  · by_cases hk : k = i
    · subst hk
      by_cases l : k < ρ.length
      · rw [List.getElem?_set_self l] at e; cases e
        rw [List.getElem?_set_self (by rw [F.len]; exact l)]
        exact ⟨v, rfl, h⟩
      · rw [List.getElem?_eq_none (by rw [List.length_set]; omega)] at e; cases e
    · rw [List.getElem?_set_ne (Ne.symm hk)] at e ⊢
      exact F.sl k z e
  · obtain ⟨h1, e1⟩ := key k ps e1
    obtain ⟨h2, e2⟩ := key l qs e2
    rw [List.getElem?_set_ne (Ne.symm h1), List.getElem?_set_ne (Ne.symm h2)]
    exact F.ds k l ps qs n e1 e2
/-- forgetting a name -/
theorem Fr.forget {G0 H0 G H : Hp} {σ : St} {ρ : List Slot} (F : Fr G0 H0 G H σ ρ) (i : Nat) : Fr G0 H0 G H σ (ρ.set i .no) := by
  have key : ∀ (k : Nat) (z : Slot), (ρ.set i .no)[k]? = some z → z = .no ∨ ρ[k]? = some z := fun k z e => by
    by_cases hk : k = i
    · subst hk
      by_cases l : k < ρ.length
      · rw [List.getElem?_set_self l] at e; cases e; exact .inl rfl
      · rw [List.getElem?_eq_none (by rw [List.length_set]; omega)] at e; cases e
    · rw [List.getElem?_set_ne (Ne.symm hk)] at e; exact .inr e
  refine ⟨F.x, by simp [F.len], fun k z e => ?_, fun k l ps qs n e1 e2 => ?_⟩
  · rcases key k z e with rfl | e
    · trivial
    · exact F.sl k z e
  · rcases key k _ e1 with h | h1
    · cases h
    · rcases key l _ e2 with h | h2
      · cases h
      · exact F.ds k l ps qs n h1 h2
/-- a name set to what nobody knows of -/
theorem Fr.setNo {G0 H0 G H : Hp} {σ : St} {ρ : List Slot} (F : Fr G0 H0 G H σ ρ) (i : Nat) (v : Option V) : Fr G0 H0 G H (σ.set i v) (ρ.set i .no) := by
  have key : ∀ (k : Nat) (z : Slot), (ρ.set i .no)[k]? = some z → z = .no ∨ (k ≠ i ∧ ρ[k]? = some z) := fun k z e => by
    by_cases hk : k = i
    · subst hk
      by_cases l : k < ρ.length
      · rw [List.getElem?_set_self l] at e; cases e; exact .inl rfl
      · rw [List.getElem?_eq_none (by rw [List.length_set]; omega)] at e; cases e
    · rw [List.getElem?_set_ne (Ne.symm hk)] at e; exact .inr ⟨hk, e⟩
  refine ⟨F.x, by simp [F.len], fun k z e => ?_, fun k l ps qs n e1 e2 => ?_⟩
  · rcases key k z e with rfl | ⟨hk, e⟩
    · trivial
    · rw [List.getElem?_set_ne (Ne.symm hk)]; exact F.sl k z e
  · rcases key k _ e1 with h | ⟨hk, h1⟩
    · cases h
    · rcases key l _ e2 with h | ⟨hl, h2⟩
      · cases h
      · rw [List.getElem?_set_ne (Ne.symm hk), List.getElem?_set_ne (Ne.symm hl)]
        exact F.ds k l ps qs n h1 h2
/-- a list that is nobody else's, just made -/
theorem Fr.setO {G0 H0 G H : Hp} {σ : St} {ρ : List Slot} (F : Fr G0 H0 G H σ ρ) (i : Nat) {ps : List Rp} {a : Addr} {vs : List V} (hn : H a = none) (r : Reps G ps vs) :
    Fr G0 H0 G (upd H a (.lst vs)) (σ.set i (some (.ref a))) (ρ.set i (.ow ps)) := by
  have hg : G a = none := F.s.free hn
  have hs : Same H (upd H a (.lst vs)) := same_upd hn
  have old : ∀ (k : Nat) (z : Slot), ρ[k]? = some z → SlotOk H0 G (upd H a (.lst vs)) ((σ[k]?).join) z := fun k z e => by
    have q := F.sl k z e
    cases z with
    | no => trivial
    | sh p => exact q
    | ow qs => obtain ⟨b, us, e1, e2, e3, e4, e5⟩ := q; exact ⟨b, us, e1, e2, e3, hs _ _ e4, e5⟩
    | bo qs => obtain ⟨b, us, e1, e2, e3, e4, e5⟩ := q; exact ⟨b, us, e1, e2, e3, hs _ _ e4, e5⟩
  have neO : ∀ (k : Nat) (qs : List Rp), ρ[k]? = some (.ow qs) → σ[k]? ≠ some (some (.ref a)) := fun k qs e z => by
    obtain ⟨b, us, e1, _, _, e4, _⟩ := F.getO e
    rw [e1] at z; cases z
    rw [hn] at e4; cases e4
  refine ⟨⟨F.x.g, F.x.h.trans hs, F.s.trans hs, F.x.n⟩, by simp [F.len], fun k z e => ?_, fun k l qs qs' n e1 e2 => ?_⟩
  · by_cases hk : k = i
    · subst hk
      by_cases l : k < ρ.length
      · rw [List.getElem?_set_self l] at e; cases e
        rw [List.getElem?_set_self (by rw [F.len]; exact l)]
        exact ⟨a, vs, rfl, hg, F.x.h.free hn, upd_same, r⟩
      · rw [List.getElem?_eq_none (by rw [List.length_set]; omega)] at e; cases e
    · rw [List.getElem?_set_ne (Ne.symm hk)] at e ⊢
      exact old k z e
  · have cas : ∀ (k : Nat) (qs : List Rp), (ρ.set i (.ow ps))[k]? = some (.ow qs) → (k = i ∧ i < ρ.length) ∨ (k ≠ i ∧ ρ[k]? = some (.ow qs)) := fun k qs e => by
      by_cases z : k = i
      · subst z
        by_cases l : k < ρ.length
        · exact .inl ⟨rfl, l⟩
        · rw [List.getElem?_eq_none (by rw [List.length_set]; omega)] at e; cases e
      · rw [List.getElem?_set_ne (Ne.symm z)] at e; exact .inr ⟨z, e⟩
    rcases cas k qs e1 with ⟨rfl, hl⟩ | ⟨hk, h1⟩
    · rcases cas l qs' e2 with ⟨rfl, _⟩ | ⟨hk', h2⟩
      · exact absurd rfl n
      · rw [List.getElem?_set_self (by rw [F.len]; exact hl), List.getElem?_set_ne (Ne.symm hk')]
        exact fun z => neO l qs' h2 z.symm
    · rcases cas l qs' e2 with ⟨rfl, hl⟩ | ⟨hk', h2⟩
      · rw [List.getElem?_set_self (by rw [F.len]; exact hl), List.getElem?_set_ne (Ne.symm hk)]
        exact neO k qs h1
      · rw [List.getElem?_set_ne (Ne.symm hk), List.getElem?_set_ne (Ne.symm hk')]
        exact F.ds k l qs qs' n h1 h2
/-- an own list written -/
theorem Fr.wr {G0 H0 G H : Hp} {σ : St} {ρ : List Slot} (F : Fr G0 H0 G H σ ρ) {i : Nat} {ps qs : List Rp} {a : Addr} {us : List V} (h : ρ[i]? = some (.ow ps)) (ha : σ[i]? = some (some (.ref a))) (r : Reps G qs us) :
    Fr G0 H0 G (upd H a (.lst us)) σ (ρ.set i (.ow qs)) := by
  obtain ⟨b, vs, e1, e2, e3, e4, e5⟩ := F.getO h
  rw [e1] at ha; cases ha
  have sG : Same G (upd H a (.lst us)) := fun c o e => by rw [upd_ne (ne_of_none e e2)]; exact F.s c o e
  have s0 : Same H0 (upd H a (.lst us)) := fun c o e => by rw [upd_ne (ne_of_none e e3)]; exact F.x.h c o e
  have il : i < ρ.length := (List.getElem?_eq_some_iff.mp h).1
  have key : ∀ (k : Nat) (qs' : List Rp), (ρ.set i (.ow qs))[k]? = some (.ow qs') → ∃ qs'', ρ[k]? = some (.ow qs'') := fun k qs' e => by
    by_cases z : k = i
    · subst z; exact ⟨ps, h⟩
    · rw [List.getElem?_set_ne (Ne.symm z)] at e; exact ⟨_, e⟩
  refine ⟨⟨F.x.g, s0, sG, F.x.n⟩, by simp [F.len], fun k z e => ?_, fun k l p q n q1 q2 => ?_⟩
  · by_cases hk : k = i
    · subst hk
      rw [List.getElem?_set_self il] at e; cases e
      rw [e1]
      exact ⟨a, us, rfl, e2, e3, upd_same, r⟩
    · rw [List.getElem?_set_ne (Ne.symm hk)] at e
      have q := F.sl k z e
      cases z with
      | no => trivial
      | sh p => exact q
      | ow p =>
        obtain ⟨b, ws, f1, f2, f3, f4, f5⟩ := F.getO e
        refine ⟨b, ws, by rw [f1]; rfl, f2, f3, ?_, f5⟩
        rw [upd_ne (fun z => F.ds k i p ps hk e h (by rw [f1, e1, z]))]
        exact f4
      | bo p =>
        obtain ⟨b, ws, f1, f2, f3, f4, f5⟩ := q
        refine ⟨b, ws, f1, f2, f3, ?_, f5⟩
        rw [upd_ne (fun z => by rw [z, e3] at f3; cases f3)]
        exact f4
  · obtain ⟨_, z1⟩ := key k p q1
    obtain ⟨_, z2⟩ := key l q q2
    exact F.ds k l _ _ n z1 z2
/-- an own list given away: from now on it's never written -/
theorem Fr.give {G0 H0 G H : Hp} {σ : St} {ρ : List Slot} (F : Fr G0 H0 G H σ ρ) {i : Nat} {ps : List Rp} (h : ρ[i]? = some (.ow ps)) : ∃ G', Same G G' ∧ Fr G0 H0 G' H σ (ρ.set i (.sh (rLst ps))) := by
  obtain ⟨a, vs, e1, e2, e3, e4, e5⟩ := F.getO h
  have sG : Same G (upd G a (.lst vs)) := same_upd e2
  have s2 : Same (upd G a (.lst vs)) H := fun c o e => by
    by_cases z : c = a
    · subst z; rw [upd_same] at e; rw [e4]; exact e
    · rw [upd_ne z] at e; exact F.s c o e
  have il : i < ρ.length := (List.getElem?_eq_some_iff.mp h).1
  have key : ∀ (k : Nat) (qs : List Rp), (ρ.set i (.sh (rLst ps)))[k]? = some (.ow qs) → k ≠ i ∧ ρ[k]? = some (.ow qs) := fun k qs e => by
    by_cases z : k = i
    · subst z; rw [List.getElem?_set_self il] at e; cases e
    · rw [List.getElem?_set_ne (Ne.symm z)] at e; exact ⟨z, e⟩
  refine ⟨upd G a (.lst vs), sG, ⟨F.x.g.trans sG, F.x.h, s2, fun c h1 h2 => ?_⟩, by simp [F.len], fun k z e => ?_, fun k l p q n q1 q2 => ?_⟩
  · rw [upd_ne (fun z => h2 (by rw [z]; exact e3))]
    exact F.x.n c h1 h2
  · by_cases hk : k = i
    · subst hk
      rw [List.getElem?_set_self il] at e; cases e
      rw [e1]
      exact ⟨_, rfl, a, vs, rfl, upd_same, e5.mono sG⟩
    · rw [List.getElem?_set_ne (Ne.symm hk)] at e
      have q := F.sl k z e
      cases z with
      | no => trivial
      | sh p => obtain ⟨u, q1, q2⟩ := q; exact ⟨u, q1, p.mono sG q2⟩
      | ow p =>
        obtain ⟨b, ws, f1, f2, f3, f4, f5⟩ := F.getO e
        refine ⟨b, ws, by rw [f1]; rfl, ?_, f3, f4, f5.mono sG⟩
        rw [upd_ne (fun z => F.ds k i p ps hk e h (by rw [f1, e1, z]))]
        exact f2
      | bo p =>
        obtain ⟨b, ws, f1, f2, f3, f4, f5⟩ := q
        refine ⟨b, ws, f1, ?_, f3, f4, f5.mono sG⟩
        rw [upd_ne (fun z => by rw [z, e3] at f3; cases f3)]
        exact f2
  · obtain ⟨_, z1⟩ := key k p q1
    obtain ⟨_, z2⟩ := key l q q2
    exact F.ds k l p q n z1 z2

def Den (t : TE) (ρ : List Slot) (p : Rp) : Prop :=
  ∀ (G0 H0 G H : Hp) (σ : St), Fr G0 H0 G H σ ρ → ∀ Q : VK, (∀ v G' H', Ext G H G' H' → p.P G' v → Q v H') → t σ H Q
def DenA (t : TA) (ρ : List Slot) (ps : List Rp) : Prop :=
  ∀ (G0 H0 G H : Hp) (σ : St), Fr G0 H0 G H σ ρ → ∀ Q : List V → Hp → Prop, (∀ vs G' H', Ext G H G' H' → Reps G' ps vs → Q vs H') → t σ H Q
def DenT (t : TT) (ρ : List Slot) (b : Bool) : Prop :=
  ∀ (G0 H0 G H : Hp) (σ : St), Fr G0 H0 G H σ ρ → ∀ Q : Bool → Hp → Prop, (∀ G' H', Ext G H G' H' → Q b H') → t σ H Q
/-- a list of its own making, nobody else's -/
def DenF (t : TE) (ρ : List Slot) (ps : List Rp) : Prop :=
  ∀ (G0 H0 G H : Hp) (σ : St), Fr G0 H0 G H σ ρ → ∀ Q : VK, (∀ a vs G' H', Ext G H G' H' → H' a = none → Reps G' ps vs → Q (.ref a) (upd H' a (.lst vs))) → t σ H Q

theorem den_of_F {t : TE} {ρ : List Slot} {ps : List Rp} (h : DenF t ρ ps) : Den t ρ (rLst ps) := fun G0 H0 G H σ F Q k =>
  h G0 H0 G H σ F Q fun a vs G' H' e hn r => k _ _ _ (e.trans (Ext.new e.s hn)) ⟨a, vs, rfl, upd_same, r.mono (same_upd (e.s.free hn))⟩
theorem den_var {ρ : List Slot} {i : Nat} {p : Rp} (h : ρ[i]? = some (.sh p)) : Den (tVar i) ρ p := fun G0 H0 G H σ F Q k => by
  obtain ⟨v, e, q⟩ := F.get h
  exact ⟨v, e, k v G H (Ext.refl F.s) q⟩
theorem den_c {ρ : List Slot} (v : V) : Den (tC v) ρ (rV v) := fun G0 H0 G H σ F Q k => k v G H (Ext.refl F.s) rfl
theorem den_eq {t : TE} {ρ : List Slot} {p q : Rp} (h : Den t ρ p) (e : p = q) : Den t ρ q := e ▸ h

/-- two in a row -/
theorem den_bin {ta tb : TE} {ρ : List Slot} {p q r : Rp} {R : R2} (ha : Den ta ρ p) (hb : Den tb ρ q)
    (hr : ∀ (x y : V) (G H : Hp) (Q : VK), Same G H → p.P G x → q.P G y → (∀ v G' H', Ext G H G' H' → r.P G' v → Q v H') → R x y H Q) : Den (tOp R ta tb) ρ r := fun G0 H0 G H σ F Q k =>
  ha G0 H0 G H σ F _ fun x G1 H1 e1 px => hb G0 H0 G1 H1 σ (F.ext e1) _ fun y G2 H2 e2 py =>
    hr x y G2 H2 Q e2.s (p.mono e2.g px) py fun v G' H' e q => k v G' H' ((e1.trans e2).trans e) q
theorem den_opI {ta tb : TE} {ρ : List Slot} {g : Int → Int → V} {i j : Int} (ha : Den ta ρ (rI' i)) (hb : Den tb ρ (rI' j)) : Den (tOp (rI0 g) ta tb) ρ (rV (g i j)) :=
  den_bin ha hb fun x y G H Q s ex ey k => ⟨i, j, ex, ey, k _ _ _ (Ext.refl s) rfl⟩
theorem den_opC {ta tb : TE} {ρ : List Slot} {C : Int → Int → Prop} {g : Int → Int → V} {i j : Int} (ha : Den ta ρ (rI' i)) (hb : Den tb ρ (rI' j)) (hc : C i j) : Den (tOp (rI C g) ta tb) ρ (rV (g i j)) :=
  den_bin ha hb fun x y G H Q s ex ey k => ⟨i, j, ex, ey, hc, k _ _ _ (Ext.refl s) rfl⟩
theorem den_cmp {ta tb : TE} {ρ : List Slot} {p : Int → Int → Bool} {i j : Int} (ha : Den ta ρ (rI' i)) (hb : Den tb ρ (rI' j)) : Den (tCmp p ta tb) ρ (rB (p i j)) := fun G0 H0 G H σ F Q k =>
  ha G0 H0 G H σ F _ fun x G1 H1 e1 px => hb G0 H0 G1 H1 σ (F.ext e1) _ fun y G2 H2 e2 py => ⟨i, j, px, py, k _ _ _ (e1.trans e2) rfl⟩
theorem den_un {ta : TE} {ρ : List Slot} {g : Int → V} {i : Int} (ha : Den ta ρ (rI' i)) : Den (tUn (rU g) ta) ρ (rV (g i)) := fun G0 H0 G H σ F Q k =>
  ha G0 H0 G H σ F _ fun x G1 H1 e1 px => ⟨i, px, k _ _ _ e1 rfl⟩
theorem den_chain {ta tb tc : TE} {ρ : List Slot} {f g : Int → Int → Bool} {i j l : Int} (ha : Den ta ρ (rI' i)) (hb : Den tb ρ (rI' j)) (hc : Den tc ρ (rI' l)) :
    Den (tChain (rI0 fun x y => .bl (f x y)) (rI0 fun x y => .bl (g x y)) ta tb tc) ρ (rB (f i j && g j l)) := fun G0 H0 G H σ F Q k =>
  ha G0 H0 G H σ F _ fun x G1 H1 e1 px => hb G0 H0 G1 H1 σ (F.ext e1) _ fun y G2 H2 e2 py => ⟨i, j, px, py, f i j, rfl, by
    cases z : f i j with
    | true =>
      rw [if_pos rfl]
      exact hc G0 H0 G2 H2 σ (F.ext (e1.trans e2)) _ fun w G3 H3 e3 pw => ⟨j, l, py, pw, k _ G3 H3 ((e1.trans e2).trans e3) (by simp [rV, z])⟩
    | false => rw [if_neg (by decide)]; exact k _ G2 H2 (e1.trans e2) (by simp [rV, z])⟩
theorem den_if {tt : TT} {ta tb : TE} {ρ : List Slot} {b : Bool} {p : Rp} (ht : DenT tt ρ b) (ha : b = true → Den ta ρ p) (hb : b = false → Den tb ρ p) : Den (tIf tt ta tb) ρ p := fun G0 H0 G H σ F Q k =>
  ht G0 H0 G H σ F _ fun G1 H1 e1 => by
    cases b with
    | true => rw [if_pos rfl]; exact ha rfl G0 H0 G1 H1 σ (F.ext e1) Q fun v G' H' e q => k v G' H' (e1.trans e) q
    | false => rw [if_neg (by decide)]; exact hb rfl G0 H0 G1 H1 σ (F.ext e1) Q fun v G' H' e q => k v G' H' (e1.trans e) q
theorem dent_B {t : TE} {ρ : List Slot} {b : Bool} (h : Den t ρ (rB b)) : DenT (tB t) ρ b := fun G0 H0 G H σ F Q k => h G0 H0 G H σ F _ fun x G1 H1 e1 px => ⟨b, px, k G1 H1 e1⟩
theorem dent_Test {t : TE} {ρ : List Slot} {b : Bool} (h : Den t ρ (rB b)) : DenT (tTest t) ρ b := fun G0 H0 G H σ F Q k => h G0 H0 G H σ F _ fun x G1 H1 e1 px => ⟨b, px, k G1 H1 e1⟩
theorem dent_not {t : TT} {ρ : List Slot} {b : Bool} (h : DenT t ρ b) : DenT (tNot t) ρ (!b) := fun G0 H0 G H σ F Q k => h G0 H0 G H σ F _ fun G1 H1 e1 => k G1 H1 e1
theorem dent_and {t u : TT} {ρ : List Slot} {a b : Bool} (ha : DenT t ρ a) (hb : a = true → DenT u ρ b) : DenT (tAnd t u) ρ (a && b) := fun G0 H0 G H σ F Q k =>
  ha G0 H0 G H σ F _ fun G1 H1 e1 => by
    cases a with
    | true => rw [if_pos rfl]; exact hb rfl G0 H0 G1 H1 σ (F.ext e1) Q fun G' H' e => by simpa using k G' H' (e1.trans e)
    | false => rw [if_neg (by decide)]; exact k G1 H1 e1
theorem dent_or {t u : TT} {ρ : List Slot} {a b : Bool} (ha : DenT t ρ a) (hb : a = false → DenT u ρ b) : DenT (tOr t u) ρ (a || b) := fun G0 H0 G H σ F Q k =>
  ha G0 H0 G H σ F _ fun G1 H1 e1 => by
    cases a with
    | true => rw [if_pos rfl]; exact k G1 H1 e1
    | false => rw [if_neg (by decide)]; exact hb rfl G0 H0 G1 H1 σ (F.ext e1) Q fun G' H' e => by simpa using k G' H' (e1.trans e)
theorem dent_yes {ρ : List Slot} : DenT tYes ρ true := fun G0 H0 G H σ F Q k => k G H (Ext.refl F.s)
theorem dent_eq {t : TT} {ρ : List Slot} {a b : Bool} (h : DenT t ρ a) (e : a = b) : DenT t ρ b := e ▸ h
theorem dena_nil {ρ : List Slot} : DenA tNil ρ [] := fun G0 H0 G H σ F Q k => k [] G H (Ext.refl F.s) .nil
theorem dena_cons {ta : TE} {t : TA} {ρ : List Slot} {p : Rp} {ps : List Rp} (ha : Den ta ρ p) (h : DenA t ρ ps) : DenA (tCons ta t) ρ (p :: ps) := fun G0 H0 G H σ F Q k =>
  ha G0 H0 G H σ F _ fun x G1 H1 e1 px => h G0 H0 G1 H1 σ (F.ext e1) _ fun vs G2 H2 e2 r => k _ G2 H2 (e1.trans e2) (.cons (p.mono e2.g px) r)
theorem denf_lst {t : TA} {ρ : List Slot} {ps : List Rp} (h : DenA t ρ ps) (hl : ps.length ≤ sizeLine := by simp only [List.length_cons, List.length_nil]; decide) : DenF (tLst t) ρ ps := fun G0 H0 G H σ F Q k =>
  h G0 H0 G H σ F _ fun vs G1 H1 e1 r => ⟨by rw [← r.length]; exact hl, fun p hp => k p vs G1 H1 e1 hp r⟩
theorem den_tup {t : TA} {ρ : List Slot} {ps : List Rp} (h : DenA t ρ ps) (hl : ps.length ≤ sizeLine := by simp only [List.length_cons, List.length_nil]; decide) : Den (tTup t) ρ (rTup ps) := fun G0 H0 G H σ F Q k =>
  h G0 H0 G H σ F _ fun vs G1 H1 e1 r => ⟨by rw [← r.length]; exact hl, fun p hp => k _ _ _ (e1.trans (Ext.new e1.s hp)) ⟨p, vs, rfl, upd_same, r.mono (same_upd (e1.s.free hp))⟩⟩
theorem atI_of {α : Type} {xs : List α} {i : Int} {v : α} (h0 : 0 ≤ i) (h : xs[i.toNat]? = some v) : atI xs i = some v := by
  have := atI_nat h
  rwa [show ((i.toNat : Nat) : Int) = i by omega] at this
theorem den_ixL {K : PySem.W.Frag} {ta tb : TE} {ρ : List Slot} {ps : List Rp} {i : Int} {p : Rp} (ha : Den ta ρ (rLst ps)) (hb : Den tb ρ (rI' i)) (h0 : 0 ≤ i) (hp : ps[i.toNat]? = some p) : Den (tOp (rIx K) ta tb) ρ p :=
  den_bin ha hb fun x y G H Q s ⟨a, vs, ex, hx, r⟩ ey k => by
    obtain ⟨v, hv, pv⟩ := r.get hp
    exact .inl ⟨a, vs, i, v, ex, ey, SqL.of (s _ _ hx), atI_of h0 hv, k v G H (Ext.refl s) pv⟩
theorem den_ixT {K : PySem.W.Frag} {ta tb : TE} {ρ : List Slot} {ps : List Rp} {i : Int} {p : Rp} (ha : Den ta ρ (rTup ps)) (hb : Den tb ρ (rI' i)) (h0 : 0 ≤ i) (hp : ps[i.toNat]? = some p) : Den (tOp (rIx K) ta tb) ρ p :=
  den_bin ha hb fun x y G H Q s ⟨a, vs, ex, hx, r⟩ ey k => by
    obtain ⟨v, hv, pv⟩ := r.get hp
    exact .inr (.inl ⟨a, vs, i, v, ex, ey, SqT.of (s _ _ hx), atI_of h0 hv, k v G H (Ext.refl s) pv⟩)
theorem den_ixA {K : PySem.W.Frag} {ta tb : TE} {ρ : List Slot} {ns : List Int} {i : Int} {n : Int} (ha : Den ta ρ (rArg K ns)) (hb : Den tb ρ (rI' i)) (h0 : 0 ≤ i) (hp : ns[i.toNat]? = some n) : Den (tOp (rIx K) ta tb) ρ (rI' n) :=
  den_bin ha hb fun x y G H Q s ⟨a, ex, hx⟩ ey k =>
    .inl ⟨a, _, i, .int n, ex, ey, s.seq hx, atI_of h0 (by rw [List.getElem?_map, hp]; rfl), k _ G H (Ext.refl s) rfl⟩
abbrev lenR (K : PySem.W.Frag) : List V → Hp → VK → Prop := fun xs H Q => ∃ p ys, xs = [.ref p] ∧ (SqL K H p ys ∨ SqT K H p ys) ∧ Q (.int ys.length) H
theorem den_lenL {K : PySem.W.Frag} {ta : TE} {ρ : List Slot} {ps : List Rp} (ha : Den ta ρ (rLst ps)) : Den (tCB (lenR K) (tCons ta tNil)) ρ (rI' ps.length) := fun G0 H0 G H σ F Q k =>
  ha G0 H0 G H σ F _ fun x G1 H1 e1 ⟨a, vs, ex, hx, r⟩ => ⟨a, vs, by rw [ex], .inl (SqL.of (e1.s _ _ hx)), k _ G1 H1 e1 (by rw [r.length]; rfl)⟩
theorem den_lenA {K : PySem.W.Frag} {ta : TE} {ρ : List Slot} {ns : List Int} (ha : Den ta ρ (rArg K ns)) : Den (tCB (lenR K) (tCons ta tNil)) ρ (rI' ns.length) := fun G0 H0 G H σ F Q k =>
  ha G0 H0 G H σ F _ fun x G1 H1 e1 ⟨a, ex, hx⟩ => ⟨a, _, by rw [ex], .inl (e1.s.seq hx), k _ G1 H1 e1 (by rw [List.length_map]; rfl)⟩
theorem den_abs {ta : TE} {ρ : List Slot} {i : Int} (ha : Den ta ρ (rI' i)) : Den (tCB (fun xs H Q => ∃ i, xs = [.int i] ∧ Q (.int (if i < 0 then -i else i)) H) (tCons ta tNil)) ρ (rI' (if i < 0 then -i else i)) := fun G0 H0 G H σ F Q k =>
  ha G0 H0 G H σ F _ fun x G1 H1 e1 ex => ⟨i, by rw [show x = .int i from ex], k _ G1 H1 e1 rfl⟩
theorem denf_cat {ta tb : TE} {ρ : List Slot} {ps qs : List Rp} (ha : Den ta ρ (rLst ps)) (hb : Den tb ρ (rLst qs)) (hl : ps.length + qs.length ≤ sizeLine) : DenF (tOp rCat ta tb) ρ (ps ++ qs) := fun G0 H0 G H σ F Q k =>
  ha G0 H0 G H σ F _ fun x G1 H1 e1 ⟨a, vs, ex, hx, r⟩ => hb G0 H0 G1 H1 σ (F.ext e1) _ fun y G2 H2 e2 ⟨b, us, ey, hy, r'⟩ =>
    ⟨a, b, vs, us, ex, ey, e2.s _ _ (e2.g _ _ hx), e2.s _ _ hy, by rw [← r.length, ← r'.length]; exact hl, fun p hp => k p _ G2 H2 (e1.trans e2) hp ((r.mono e2.g).append r')⟩
theorem denf_rep {ta tb : TE} {ρ : List Slot} {ps : List Rp} {n : Int} (ha : Den ta ρ (rLst ps)) (hb : Den tb ρ (rI' n)) (h0 : -(2 ^ 63) ≤ n) (h1 : n < 2 ^ 63) (hl : ps.length * n.toNat ≤ sizeLine) : DenF (tOp rRep ta tb) ρ (List.replicate n.toNat ps).flatten := fun G0 H0 G H σ F Q k =>
  ha G0 H0 G H σ F _ fun x G1 H1 e1 ⟨a, vs, ex, hx, r⟩ => hb G0 H0 G1 H1 σ (F.ext e1) _ fun y G2 H2 e2 ey =>
    ⟨a, n, vs, ex, ey, e2.s _ _ (e2.g _ _ hx), h0, h1, by rw [← r.length]; exact hl, fun p hp => k p _ G2 H2 (e1.trans e2) hp ((r.mono e2.g).rep _)⟩
def SpF {α : Type} (pre : α → Prop) (args : α → List Rp) (res : α → Rp) : Sp := fun vs H Q _ => ∃ x G, pre x ∧ Same G H ∧ Reps G (args x) vs ∧ ∀ v G' H', Ext G H G' H' → (res x).P G' v → Q v H'
theorem den_call {α : Type} {pre : α → Prop} {args : α → List Rp} {res : α → Rp} {E : XK} {t : TA} {ρ : List Slot} (x : α) (ha : DenA t ρ (args x)) (hp : pre x) : Den (tCall (SpF pre args res) [] E t) ρ (res x) := fun G0 H0 G H σ F Q k =>
  ha G0 H0 G H σ F _ fun vs G1 H1 e1 r => ⟨x, G1, hp, e1.s, by rw [List.append_nil]; exact r, fun v G' H' e q => k v G' H' (e1.trans e) q⟩
/-- .. whose answer is a list of its own making -/
def SpN {α : Type} (pre : α → Prop) (args : α → List Rp) (res : α → List Rp) : Sp := fun vs H Q _ => ∃ x G, pre x ∧ Same G H ∧ Reps G (args x) vs ∧ ∀ a us G' H', Ext G H G' H' → H' a = none → Reps G' (res x) us → Q (.ref a) (upd H' a (.lst us))
structure ItOk (J : It) (G B : Hp) (n : Nat) (item : Nat → Rp) : Prop where
  go : ∀ i H, Same G H → Same B H → i < n → J.go i H
  yld : ∀ i G1 H x H', Same G G1 → Same G1 H → Same B H → i < n → J.yld i H x H' → ∃ G2, Ext G1 H G2 H' ∧ (item i).P G2 x
  stop : ∀ H, Same G H → Same B H → J.stop n H
def DenI (wi : TI) (ρ : List Slot) (n : Nat) (item : Nat → Rp) : Prop :=
  ∀ (G0 H0 G H : Hp) (σ : St), Fr G0 H0 G H σ ρ → ∀ R : It → Hp → Prop, (∀ J G' H', Ext G H G' H' → ItOk J G' H0 n item → R J H') → wi σ H R
theorem deni_list {K : PySem.W.Frag} {tl : TE} {ρ : List Slot} {ps : List Rp} {n : Nat} {item : Nat → Rp} (h : Den tl ρ (rLst ps)) (hn : n = ps.length) (hi : ∀ i, i < n → ps[i]? = some (item i)) : DenI (iList K tl) ρ n item := fun G0 H0 G H σ F R k =>
  h G0 H0 G H σ F _ fun x G1 H1 e1 ⟨a, vs, ex, hx, r⟩ => ⟨a, ex, ⟨vs, SqL.of (e1.s _ _ hx)⟩, k _ G1 H1 e1 ⟨
    fun i H2 s _ hl => by
      obtain ⟨v, hv, _⟩ := r.get (hi i hl)
      exact ⟨vs, v, SqL.of (s _ _ hx), hv⟩,
    fun i G2 H2 x H3 s1 s2 _ hl ⟨e, y⟩ => by
      subst e
      obtain ⟨v, hv, pv⟩ := r.get (hi i hl)
      have z := y vs (SqL.of (s2 _ _ (s1 _ _ hx)))
      rw [hv] at z; cases z
      exact ⟨G2, Ext.refl s2, (item i).mono s1 pv⟩,
    fun H2 s _ => ⟨vs, SqL.of (s _ _ hx), by rw [hn, r.length]; exact Nat.le_refl _⟩⟩⟩
theorem deni_rng1 {ta : TA} {ρ : List Slot} {m : Int} (h : DenA ta ρ [rI' m]) (h0 : -(2 ^ 62) ≤ m) (h1 : m < 2 ^ 62) : DenI (iRng1 ta) ρ m.toNat (fun i => rI' i) := fun G0 H0 G H σ F R k =>
  h G0 H0 G H σ F _ fun vs G1 H1 e1 r => by
    cases r with
    | cons hv t =>
      cases t
      exact ⟨m, by rw [show _ = V.int m from hv], h0, h1, k _ G1 H1 e1 ⟨fun i _ _ _ hl => hl, fun i G2 H2 x H3 s1 s2 _ hl ⟨e, y⟩ => ⟨G2, by rw [e]; exact Ext.refl s2, by show x = V.int i; rw [y]; simp⟩, fun _ _ _ => Nat.le_refl _⟩⟩
theorem deni_rng2 {ta : TA} {ρ : List Slot} {l m : Int} (h : DenA ta ρ [rI' l, rI' m]) (hb : -(2 ^ 62) ≤ l ∧ l < 2 ^ 62 ∧ -(2 ^ 62) ≤ m ∧ m < 2 ^ 62) : DenI (iRng2 ta) ρ (m - l).toNat (fun i => rI' (l + i)) := fun G0 H0 G H σ F R k =>
  h G0 H0 G H σ F _ fun vs G1 H1 e1 r => by
    cases r with
    | cons hv t =>
      cases t with
      | cons hw t =>
        cases t
        exact ⟨l, m, by rw [show _ = V.int l from hv, show _ = V.int m from hw], hb, k _ G1 H1 e1 ⟨fun i _ _ _ hl => hl, fun i G2 H2 x H3 s1 s2 _ hl ⟨e, y⟩ => ⟨G2, by rw [e]; exact Ext.refl s2, y⟩, fun _ _ _ => Nat.le_refl _⟩⟩
theorem deni_rng3 {ta : TA} {ρ : List Slot} {l m c : Int} {n : Nat} (h : DenA ta ρ [rI' l, rI' m, rI' c]) (hr : RgC l m c n) : DenI (iRng3 ta) ρ n (fun i => rI' (l + (i : Int) * c)) := fun G0 H0 G H σ F R k =>
  h G0 H0 G H σ F _ fun vs G1 H1 e1 r => by
    cases r with
    | cons hv t =>
      cases t with
      | cons hw t =>
        cases t with
        | cons hz t =>
          cases t
          exact ⟨l, m, c, n, by rw [show _ = V.int l from hv, show _ = V.int m from hw, show _ = V.int c from hz], hr, k _ G1 H1 e1 ⟨fun i _ _ _ hl => hl, fun i G2 H2 x H3 s1 s2 _ hl ⟨e, y⟩ => ⟨G2, by rw [e]; exact Ext.refl s2, y⟩, fun _ _ _ => Nat.le_refl _⟩⟩
theorem deni_enum {K : PySem.W.Frag} {ta : TE} {ρ : List Slot} {ps : List Rp} {n : Nat} {item : Nat → Rp} (h : Den ta ρ (rLst ps)) (hn : n = ps.length) (hi : ∀ i, i < n → ps[i]? = some (item i)) : DenI (iEnum K (tCons ta tNil)) ρ n (fun i => rTup [rI' i, item i]) := fun G0 H0 G H σ F R k =>
  h G0 H0 G H σ F _ fun x G1 H1 e1 ⟨a, vs, ex, hx, r⟩ => ⟨a, vs, by rw [ex], SqL.of (e1.s _ _ hx), k _ G1 H1 e1 ⟨
    fun i H2 s _ hl => by
      obtain ⟨v, hv, _⟩ := r.get (hi i hl)
      exact ⟨vs, v, SqL.of (s _ _ hx), hv⟩,
    fun i G2 H2 x H3 s1 s2 _ hl ⟨T, w, ex, hT, e, y⟩ => by
      subst e
      obtain ⟨v, hv, pv⟩ := r.get (hi i hl)
      have z := y vs (SqL.of (s2 _ _ (s1 _ _ hx)))
      rw [hv] at z
      have z' := Option.some.inj z
      subst z'
      have s3 : Same G2 (upd G2 T (.tup [.int (i : Nat), v])) := same_upd (s2.free hT)
      exact ⟨_, Ext.new s2 hT, T, _, ex, upd_same, .cons rfl (.cons ((item i).mono (s1.trans s3) pv) .nil)⟩,
    fun H2 s _ => ⟨vs, SqL.of (s _ _ hx), by rw [hn, r.length]; exact Nat.le_refl _⟩⟩⟩
/-- storing an item: the frame behind it; vs: the slots that are written -/
def DenG (g : TG) (vs : List Nat) (ρ : List Slot) (p : Rp) (ρ' : List Slot) : Prop :=
  ∀ (G0 H0 G H : Hp) (σ : St) (v : V), Fr G0 H0 G H σ ρ → p.P G v → ∀ Q : St → Hp → Prop, (∀ σ', Fr G0 H0 G H σ' ρ' → (∀ τ : St, wipe τ vs = σ → wipe σ' vs = σ) → Q σ' H) → g v σ H Q
def wipeR (ρ : List Slot) : List Nat → List Slot
  | [] => ρ
  | v :: vs => (wipeR ρ vs).set v .no
theorem fr_wipe {G0 H0 G H : Hp} {σ : St} {ρ : List Slot} (F : Fr G0 H0 G H σ ρ) : ∀ vs : List Nat, Fr G0 H0 G H (wipe σ vs) (wipeR ρ vs)
  | [] => F
  | v :: vs => (fr_wipe F vs).setNo v none
theorem deng_name {ρ : List Slot} {p : Rp} (i : Nat) : DenG (gName i) [i] ρ p (ρ.set i (.sh p)) := fun G0 H0 G H σ v F hv Q k =>
  k (σ.set i (some v)) (F.set i hv) fun τ e => by
    show (σ.set i (some v)).set i none = σ
    rw [← e]
    show (((τ.set i none).set i (some v)).set i none) = τ.set i none
    simp [List.set_set]
theorem set3 (τ : St) (i j : Nat) (x y : Option V) : (((((τ.set j none).set i none).set i x).set j y).set j none).set i none = (τ.set j none).set i none := by
  apply List.ext_getElem?
  intro k
  by_cases hi : i = k <;> by_cases hj : j = k <;> simp [List.getElem?_set, hi, hj] <;> split <;> simp_all
theorem deng_pair {K : PySem.W.Frag} {ρ : List Slot} {p q : Rp} (i j : Nat) : DenG (gTup K 2 (gCons (gName i) (gCons (gName j) gNil))) [i, j] ρ (rTup [p, q]) ((ρ.set i (.sh p)).set j (.sh q)) := fun G0 H0 G H σ v F ⟨a, vs, ev, ha, r⟩ Q k => by
  cases r with
  | cons hx t =>
    cases t with
    | cons hy t =>
      cases t
      refine ⟨a, _, ev, SqT.of (F.s _ _ ha), rfl, _, _, rfl, _, _, rfl, rfl, k _ ((F.set i hx).set j hy) fun τ e => ?_⟩
      subst e
      exact set3 τ i j _ _
def del (H : Hp) (D : Addr) : Hp := fun a => if a = D then none else H a
theorem del_ne {H : Hp} {D a : Addr} (h : a ≠ D) : del H D a = H a := by unfold del; rw [if_neg h]
theorem del_self {H : Hp} {D : Addr} : del H D D = none := by unfold del; rw [if_pos rfl]
theorem del_upd {H : Hp} {D : Addr} {o : HO} : del (upd H D o) D = del H D := by
  funext a; unfold del upd; split <;> rfl
theorem same_del {G H : Hp} {D : Addr} (s : Same G H) (h : G D = none) : Same G (del H D) := fun b o e => by rw [del_ne (ne_of_none e h)]; exact s b o e
theorem del_same {H : Hp} {D : Addr} : Same (del H D) H := fun b o e => by
  by_cases z : b = D
  · rw [z, del_self] at e; cases e
  · rw [del_ne z] at e; exact e
/-- the words of a comprehension: out i: what the first i items have given -/
theorem denf_lc {wi : TI} {g : TG} {tt : TT} {te : TE} {vs : List Nat} {ρ : List Slot} {n : Nat} {item : Nat → Rp} (out : Nat → List Rp) (hI : DenI wi ρ n item) (h0 : out 0 = []) (hsz : n ≤ sizeLine)
    (hb : ∀ i, i < n → ∃ ρ' b, DenG g vs (wipeR ρ vs) (item i) ρ' ∧ DenT tt ρ' b ∧ (b = true → ∃ p, Den te ρ' p ∧ out (i + 1) = out i ++ [p]) ∧ (b = false → out (i + 1) = out i)) : DenF (tLc wi g tt te vs) ρ (out n) := fun G0 H0 G H σ F Q k =>
  hI G0 H0 G H σ F _ fun J G1 H1 e1 ok D hD => by
    have F1 := F.ext e1
    have hlen : ∀ i, i ≤ n → (out i).length ≤ i := fun i => by
      induction i with
      | zero => intro _; rw [h0]; exact Nat.le_refl _
      | succ i ih =>
        intro hi
        obtain ⟨ρ', b, _, _, ht, hf⟩ := hb i hi
        have := ih (by omega)
        cases b with
        | true => obtain ⟨p, _, e⟩ := ht rfl; rw [e, List.length_append]; simp; omega
        | false => rw [hf rfl]; omega
    refine ⟨fun i m H2 => m = n - i ∧ i ≤ n ∧ ∃ G2 us, Ext G1 H1 G2 (del H2 D) ∧ G2 D = none ∧ H2 D = some (.lst us) ∧ Reps G2 (out i) us, ⟨n, ?_⟩, ?_⟩
    · refine ⟨rfl, Nat.zero_le _, G1, [], ?_, e1.s.free hD, upd_same, by rw [h0]; exact .nil⟩
      have e : del (upd H1 D (.lst [])) D = H1 := by
        rw [del_upd]; funext a
        by_cases z : a = D
        · rw [z, del_self, hD]
        · rw [del_ne z]
      rw [e]; exact Ext.refl e1.s
    · rintro i m H2 ⟨rfl, hi, G2, us, x2, d2, l2, r2⟩
      have sG : Same G2 H2 := x2.s.trans del_same
      have s12 : Same G1 H2 := x2.g.trans sG
      have s0 : Same H0 H2 := (F1.x.h.trans x2.h).trans del_same
      by_cases hlt : i < n
      · refine .inr ⟨ok.go i H2 s12 s0 hlt, fun H' => (n - (i + 1) = n - (i + 1) ∧ i + 1 ≤ n ∧ ∃ G2 us, Ext G1 H1 G2 (del H' D) ∧ G2 D = none ∧ H' D = some (.lst us) ∧ Reps G2 (out (i + 1)) us), fun H' h => ⟨n - (i + 1), by omega, h⟩, fun x H' y => ?_⟩
        obtain ⟨G3, x3, p3⟩ := ok.yld i G2 H2 x H' x2.g sG s0 hlt y
        obtain ⟨ρ', b, hg, ht, htt, htf⟩ := hb i hlt
        have F2 : Fr G0 H0 G2 H2 σ ρ := by
          refine ⟨⟨F1.x.g.trans x2.g, (F1.x.h.trans x2.h).trans del_same, sG, fun a z1 z2 => x2.n a (F1.x.n a z1 z2) (fun q => z2 (F1.x.h.free q))⟩, F.len, fun l z e => ?_, F.ds⟩
          have q := (F1.ext x2).sl l z e
          cases z with
          | no => trivial
          | sh p => exact q
          | ow ps => obtain ⟨a, ws, q1, q2, q3, q4, q5⟩ := q; exact ⟨a, ws, q1, q2, q3, del_same _ _ q4, q5⟩
          | bo ps => obtain ⟨a, ws, q1, q2, q3, q4, q5⟩ := q; exact ⟨a, ws, q1, q2, q3, del_same _ _ q4, q5⟩
        have F3 := fr_wipe (F2.ext x3) vs
        refine hg _ _ _ _ _ x F3 p3 _ fun σ' F4 hw => ⟨hw σ rfl, ?_⟩
        refine ht _ _ _ _ _ F4 _ fun G4 H4 x4 => ?_
        -- what is kept of the new list
        have stay : ∀ {G5 H5 : Hp}, Ext G2 H2 G5 H5 → G5 D = none ∧ H5 D = some (.lst us) ∧ Ext G1 H1 G5 (del H5 D) := fun {G5 H5} x5 => by
          have d5 : G5 D = none := x5.n D d2 (by rw [l2]; simp)
          refine ⟨d5, x5.h _ _ l2, x2.g.trans x5.g, fun a o e => ?_, same_del x5.s d5, fun a z1 z2 => ?_⟩
          · have na : a ≠ D := ne_of_none e hD
            rw [del_ne na]
            exact x5.h _ _ (by have := x2.h a o e; rwa [del_ne na] at this)
          · have na : a ≠ D := fun z => z2 (by rw [z]; exact hD)
            have q2 := x2.n a z1 z2
            refine x5.n a q2 fun z => z2 ?_
            have : del H2 D a = none := by rw [del_ne na]; exact z
            exact x2.h.free this
        cases b with
        | false =>
          rw [if_neg (by decide)]
          obtain ⟨q1, q2, q3⟩ := stay (x3.trans x4)
          exact ⟨rfl, hlt, G4, us, q3, q1, q2, by rw [htf rfl]; exact r2.mono (x3.trans x4).g⟩
        | true =>
          rw [if_pos rfl]
          obtain ⟨p, he, eo⟩ := htt rfl
          refine he _ _ _ _ _ (F4.ext x4) _ fun v G5 H5 x5 pv => ?_
          have x25 := (x3.trans x4).trans x5
          obtain ⟨q1, q2, q3⟩ := stay x25
          refine ⟨us, q2, ?_, rfl, hlt, G5, us ++ [v], ?_, q1, upd_same, ?_⟩
          · have := hlen i hi; rw [← r2.length]; omega
          · rw [del_upd]; exact q3
          · rw [eo]; exact (r2.mono x25.g).append (.cons pv .nil)
      · have e : i = n := by omega
        subst e
        refine .inl ⟨ok.stop H2 s12 s0, ?_⟩
        have e : H2 = upd (del H2 D) D (.lst us) := by
          funext a
          by_cases z : a = D
          · rw [z, upd_same, l2]
          · rw [upd_ne z, del_ne z]
        rw [e]
        exact k D us G2 (del H2 D) (e1.trans x2) del_self r2
/-- .. without a test -/
theorem denf_map {wi : TI} {g : TG} {te : TE} {vs : List Nat} {ρ : List Slot} {n : Nat} {item : Nat → Rp} (res : Nat → Rp) (hI : DenI wi ρ n item) (hsz : n ≤ sizeLine)
    (hb : ∀ i, i < n → ∃ ρ', DenG g vs (wipeR ρ vs) (item i) ρ' ∧ Den te ρ' (res i)) : DenF (tLc wi g tYes te vs) ρ ((List.range n).map res) := by
  refine denf_lc (fun i => (List.range i).map res) hI rfl hsz fun i hi => ?_
  obtain ⟨ρ', h1, h2⟩ := hb i hi
  exact ⟨ρ', true, h1, dent_yes, fun _ => ⟨_, h2, by rw [List.range_succ, List.map_append]; rfl⟩, fun h => by cases h⟩

inductive Out where
  | nx (ρ : List Slot)
  | rt (p : Rp)
  | rtF (ps : List Rp)
def OutOk (G0 H0 G : Hp) (D : Ends) : Out → Prop
  | .nx ρ => ∀ (σ : St) (G' H : Hp), Same G G' → Fr G0 H0 G' H σ ρ → D.nx σ H
  | .rt p => ∀ (v : V) (G' H : Hp), Ext G0 H0 G' H → p.P G' v → D.rt v H
  | .rtF ps => ∀ (a : Addr) (vs : List V) (G' H : Hp), Ext G0 H0 G' H → H a = none → Reps G' ps vs → D.rt (.ref a) (upd H a (.lst vs))
theorem OutOk.mono {G0 H0 G G1 : Hp} {D : Ends} {o : Out} (s : Same G G1) (h : OutOk G0 H0 G D o) : OutOk G0 H0 G1 D o := by
  cases o with
  | nx ρ => exact fun σ G' H s' F => h σ G' H (s.trans s') F
  | rt p => exact h
  | rtF ps => exact h
def DenS (t : TS) (ρ : List Slot) (o : Out) : Prop := ∀ (G0 H0 G H : Hp) (σ : St), Fr G0 H0 G H σ ρ → ∀ D : Ends, OutOk G0 H0 G D o → t D σ H
theorem dens_next {ρ : List Slot} : DenS tNext ρ (.nx ρ) := fun G0 H0 G H σ F D k => k σ G H (Same.refl _) F
theorem dens_seq {t u : TS} {ρ ρ1 : List Slot} {o : Out} (h : DenS t ρ (.nx ρ1)) (h2 : DenS u ρ1 o) : DenS (tSeq t u) ρ o := fun G0 H0 G H σ F D k =>
  h G0 H0 G H σ F _ fun σ1 G1 H1 s1 F1 => h2 G0 H0 G1 H1 σ1 F1 D (k.mono s1)
theorem dens_seqR {t u : TS} {ρ : List Slot} {p : Rp} (h : DenS t ρ (.rt p)) : DenS (tSeq t u) ρ (.rt p) := fun G0 H0 G H σ F D k => h G0 H0 G H σ F _ k
theorem dens_seqRF {t u : TS} {ρ : List Slot} {ps : List Rp} (h : DenS t ρ (.rtF ps)) : DenS (tSeq t u) ρ (.rtF ps) := fun G0 H0 G H σ F D k => h G0 H0 G H σ F _ k
theorem dens_ret {te : TE} {ρ : List Slot} {p : Rp} (h : Den te ρ p) : DenS (tRet te) ρ (.rt p) := fun G0 H0 G H σ F D k => h G0 H0 G H σ F _ fun v G1 H1 e1 pv => k v G1 H1 (F.x.trans e1) pv
theorem dens_retF {te : TE} {ρ : List Slot} {ps : List Rp} (h : DenF te ρ ps) : DenS (tRet te) ρ (.rtF ps) := fun G0 H0 G H σ F D k => h G0 H0 G H σ F _ fun a vs G1 H1 e1 hn r => k a vs G1 H1 (F.x.trans e1) hn r
theorem dens_retO {ρ : List Slot} {i : Nat} {ps : List Rp} (h : ρ[i]? = some (.ow ps)) : DenS (tRet (tVar i)) ρ (.rt (rLst ps)) := fun G0 H0 G H σ F D k => by
  obtain ⟨G', s', F'⟩ := F.give h
  have il : i < ρ.length := (List.getElem?_eq_some_iff.mp h).1
  exact dens_ret (den_var (List.getElem?_set_self il)) G0 H0 G' H σ F' D k
theorem dens_if {tc : TT} {t u : TS} {ρ : List Slot} {b : Bool} {o : Out} (hc : DenT tc ρ b) (ht : b = true → DenS t ρ o) (hu : b = false → DenS u ρ o) : DenS (tIfS tc t u) ρ o := fun G0 H0 G H σ F D k =>
  hc G0 H0 G H σ F _ fun G1 H1 e1 => by
    cases b with
    | true => rw [if_pos rfl]; exact ht rfl G0 H0 G1 H1 σ (F.ext e1) D (k.mono e1.g)
    | false => rw [if_neg (by decide)]; exact hu rfl G0 H0 G1 H1 σ (F.ext e1) D (k.mono e1.g)
theorem dens_set {te : TE} {ρ : List Slot} {p : Rp} (i : Nat) (h : Den te ρ p) : DenS (tAsg te (gName i)) ρ (.nx (ρ.set i (.sh p))) := fun G0 H0 G H σ F D k =>
  h G0 H0 G H σ F _ fun v G1 H1 e1 pv => k _ G1 H1 e1.g ((F.ext e1).set i pv)
theorem dens_setO {te : TE} {ρ : List Slot} {ps : List Rp} (i : Nat) (h : DenF te ρ ps) : DenS (tAsg te (gName i)) ρ (.nx (ρ.set i (.ow ps))) := fun G0 H0 G H σ F D k =>
  h G0 H0 G H σ F _ fun a vs G1 H1 e1 hn r => k _ G1 _ e1.g ((F.ext e1).setO i hn r)
theorem dens_aug {te : TE} {ρ : List Slot} {f : Int → Int → Int} {i : Nat} {m n : Int} (hi : ρ[i]? = some (.sh (rI' m))) (h : Den te ρ (rI' n)) : DenS (tAug i te (ipI f)) ρ (.nx (ρ.set i (.sh (rI' (f m n))))) := fun G0 H0 G H σ F D k => by
  obtain ⟨v, e, q⟩ := F.get hi
  exact ⟨v, e, h G0 H0 G H σ F _ fun y G1 H1 e1 py => ⟨m, n, q, py, k _ G1 H1 e1.g ((F.ext e1).set i rfl)⟩⟩
theorem dens_give {t : TS} {ρ : List Slot} {i : Nat} {ps : List Rp} {o : Out} (h : ρ[i]? = some (.ow ps)) (hs : DenS t (ρ.set i (.sh (rLst ps))) o) : DenS t ρ o := fun G0 H0 G H σ F D k => by
  obtain ⟨G', s', F'⟩ := F.give h
  exact hs G0 H0 G' H σ F' D (k.mono s')
theorem dens_append {K : PySem.W.Frag} {te : TE} {ρ : List Slot} {i : Nat} {ps : List Rp} {p : Rp} (hi : ρ[i]? = some (.ow ps)) (h : Den te ρ p) (hl : ps.length < sizeLine) :
    DenS (tDrop (tBM K "list" rAppend (tVar i) (tCons te tNil))) ρ (.nx (ρ.set i (.ow (ps ++ [p])))) := fun G0 H0 G H σ F D k => by
  obtain ⟨a, vs, e1, e2, e3, e4, e5⟩ := F.getO hi
  refine ⟨_, e1, .inl ⟨rfl, vs, SqL.of e4⟩, h G0 H0 G H σ F _ fun y G1 H1 x1 py => ⟨a, vs, y, rfl, rfl, x1.h _ _ e4, by rw [← e5.length]; exact hl, k _ G1 _ x1.g ((F.ext x1).wr hi e1 ((e5.mono x1.g).append (.cons py .nil)))⟩⟩
/-- for: ρs i: the frame ahead of turn i (the loop's names forgotten) -/
def forgetR (ρ : List Slot) : List Nat → List Slot
  | [] => ρ
  | v :: vs => (forgetR ρ vs).set v .no
theorem fr_forget {G0 H0 G H : Hp} {σ : St} {ρ : List Slot} (F : Fr G0 H0 G H σ ρ) : ∀ vs : List Nat, Fr G0 H0 G H σ (forgetR ρ vs)
  | [] => F
  | v :: vs => (fr_forget F vs).forget v
theorem dens_for {wi : TI} {g : TG} {tb : TS} {vs : List Nat} {n : Nat} {item : Nat → Rp} (ρs : Nat → List Slot) (hI : DenI wi (ρs 0) n item)
    (hb : ∀ i, i < n → ∃ ρ' ρ'', DenG g vs (ρs i) (item i) ρ' ∧ DenS tb ρ' (.nx ρ'') ∧ forgetR ρ'' vs = ρs (i + 1)) : DenS (tFor wi g tb) (ρs 0) (.nx (ρs n)) := fun G0 H0 G H σ F D k =>
  hI G0 H0 G H σ F _ fun J G1 H1 e1 ok => by
    refine ⟨fun i m σ2 H2 => m = n - i ∧ i ≤ n ∧ ∃ G2, Same G1 G2 ∧ Fr G0 H0 G2 H2 σ2 (ρs i), ⟨n, rfl, Nat.zero_le _, G1, Same.refl _, F.ext e1⟩, ?_⟩
    rintro i m σ2 H2 ⟨rfl, hi, G2, s2, F2⟩
    by_cases hlt : i < n
    · refine .inr ⟨ok.go i H2 (s2.trans F2.s) F2.x.h hlt, fun σ' H' => ∃ G2, Same G1 G2 ∧ Fr G0 H0 G2 H' σ' (ρs (i + 1)), fun σ' H' ⟨G', s', F'⟩ => ⟨n - (i + 1), by omega, rfl, hlt, G', s', F'⟩, fun x H' y => ?_⟩
      obtain ⟨G3, x3, p3⟩ := ok.yld i G2 H2 x H' s2 F2.s F2.x.h hlt y
      obtain ⟨ρ', ρ'', hg, hS, e⟩ := hb i hlt
      refine hg _ _ _ _ _ x (F2.ext x3) p3 _ fun σ' F4 _ => hS _ _ _ _ _ F4 _ fun σ5 G5 H5 s5 F5 => ?_
      have q := fr_forget F5 vs
      rw [e] at q
      exact ⟨G5, (s2.trans x3.g).trans s5, q⟩
    · have e : i = n := by omega
      subst e
      exact .inl ⟨ok.stop H2 (s2.trans F2.s) F2.x.h, k σ2 G2 H2 (e1.g.trans s2) F2⟩
/-- .. that is left by a return in turn j -/
theorem dens_forR {wi : TI} {g : TG} {tb : TS} {vs : List Nat} {n : Nat} {item : Nat → Rp} {p : Rp} (ρs : Nat → List Slot) (j : Nat) (hj : j < n) (hI : DenI wi (ρs 0) n item)
    (hb : ∀ i, i < j → ∃ ρ' ρ'', DenG g vs (ρs i) (item i) ρ' ∧ DenS tb ρ' (.nx ρ'') ∧ forgetR ρ'' vs = ρs (i + 1)) (hr : ∃ ρ', DenG g vs (ρs j) (item j) ρ' ∧ DenS tb ρ' (.rt p)) : DenS (tFor wi g tb) (ρs 0) (.rt p) := fun G0 H0 G H σ F D k =>
  hI G0 H0 G H σ F _ fun J G1 H1 e1 ok => by
    refine ⟨fun i m σ2 H2 => m = n - i ∧ i ≤ j ∧ ∃ G2, Same G1 G2 ∧ Fr G0 H0 G2 H2 σ2 (ρs i), ⟨n, rfl, Nat.zero_le _, G1, Same.refl _, F.ext e1⟩, ?_⟩
    rintro i m σ2 H2 ⟨rfl, hi, G2, s2, F2⟩
    have hlt : i < n := by omega
    refine .inr ⟨ok.go i H2 (s2.trans F2.s) F2.x.h hlt, fun σ' H' => i < j ∧ ∃ G2, Same G1 G2 ∧ Fr G0 H0 G2 H' σ' (ρs (i + 1)), fun σ' H' ⟨l', G', s', F'⟩ => ⟨n - (i + 1), by omega, rfl, l', G', s', F'⟩, fun x H' y => ?_⟩
    obtain ⟨G3, x3, p3⟩ := ok.yld i G2 H2 x H' s2 F2.s F2.x.h hlt y
    by_cases hij : i < j
    · obtain ⟨ρ', ρ'', hg, hS, e⟩ := hb i hij
      refine hg _ _ _ _ _ x (F2.ext x3) p3 _ fun σ' F4 _ => hS _ _ _ _ _ F4 _ fun σ5 G5 H5 s5 F5 => ?_
      have q := fr_forget F5 vs
      rw [e] at q
      exact ⟨hij, G5, (s2.trans x3.g).trans s5, q⟩
    · have e : i = j := by omega
      subst e
      obtain ⟨ρ', hg, hS⟩ := hr
      exact hg _ _ _ _ _ x (F2.ext x3) p3 _ fun σ' F4 _ => hS _ _ _ _ _ F4 _ k
/-- while: the frame is read off a state -/
theorem dens_while {α : Type} {tc : TT} {tb : TS} {ρo : List Slot} (ρs : α → List Slot) (P : α → Prop) (μ : α → Nat) (s0 : α) (h0 : P s0)
    (hs : ∀ s, P s → ∃ b, DenT tc (ρs s) b ∧ (b = true → ∃ s' ρ', DenS tb (ρs s) (.nx ρ') ∧ (∀ G0 H0 G H σ, Fr G0 H0 G H σ ρ' → Fr G0 H0 G H σ (ρs s')) ∧ P s' ∧ μ s' < μ s) ∧ (b = false → ∀ G0 H0 G H σ, Fr G0 H0 G H σ (ρs s) → Fr G0 H0 G H σ ρo)) :
    DenS (tWhile tc tb) (ρs s0) (.nx ρo) := fun G0 H0 G H σ F D k => by
  refine ⟨fun m σ2 H2 => ∃ s G2, m = μ s ∧ P s ∧ Same G G2 ∧ Fr G0 H0 G2 H2 σ2 (ρs s), ⟨_, s0, G, rfl, h0, Same.refl _, F⟩, ?_⟩
  rintro m σ2 H2 ⟨s, G2, rfl, ps, s2, F2⟩
  obtain ⟨b, hc, ht, hf⟩ := hs s ps
  refine hc _ _ _ _ _ F2 _ fun G3 H3 x3 => ?_
  cases b with
  | true =>
    rw [if_pos rfl]
    obtain ⟨s', ρ', hS, hw, ps', lt⟩ := ht rfl
    refine ⟨fun σ' H' => ∃ G4, Same G G4 ∧ Fr G0 H0 G4 H' σ' (ρs s'), fun σ' H' ⟨G4, s4, F4⟩ => ⟨μ s', lt, s', G4, rfl, ps', s4, F4⟩, hS _ _ _ _ _ (F2.ext x3) _ fun σ5 G5 H5 s5 F5 => ⟨G5, (s2.trans x3.g).trans s5, hw _ _ _ _ _ F5⟩⟩
  | false =>
    rw [if_neg (by decide)]
    exact k _ G3 H3 (s2.trans x3.g) (hf rfl _ _ _ _ _ (F2.ext x3))
theorem dens_eq {t : TS} {ρ : List Slot} {o o' : Out} (h : DenS t ρ o) (e : o = o') : DenS t ρ o' := e ▸ h
end EM
end

section
set_option Elab.async false
set_option linter.all false
set_option Elab.async false
set_option maxRecDepth 100000
namespace EM
open PySem PySem.Spec PyProof.Rows L2
section
variable {X : Cx}
theorem op_mulK : OpR X (binaryOp .Mult) (rI IntMulOk fun i j => .int (i * j)) := opI fun _ _ _ _ _ _ _ hc q => mul_int q hc
end
section
variable {P : Program} {w : World} {K : PySem.W.Frag} {mg : Str → Option Value} {base : Heap}
def rho0 (N : List Str) (ps : List Rp) : List Slot := ps.map Slot.sh ++ List.replicate (N.length - ps.length) .no
theorem fr_start {N : List Str} {ps : List Rp} {vs : List V} {G H : Hp} (s : Same G H) (r : Reps G ps vs) : Fr G H G H (start N vs) (rho0 N ps) := by
  have hl := r.length
  have hno : ∀ (i : Nat) (qs : List Rp), ¬ (rho0 N ps)[i]? = some (.ow qs) := fun i qs e => by
    unfold rho0 at e
    by_cases hi : i < ps.length
    · rw [List.getElem?_append_left (by rw [List.length_map]; exact hi), List.getElem?_map] at e
      rw [List.getElem?_eq_getElem hi] at e
      cases e
    · rw [List.getElem?_append_right (by rw [List.length_map]; omega), List.getElem?_replicate] at e
      split at e <;> cases e
  refine ⟨Ext.refl s, ?_, fun i z e => ?_, fun i j qs _ _ e _ => absurd e (hno i qs)⟩
  · unfold L2.start rho0; simp [hl]
  · unfold rho0 at e
    by_cases hi : i < ps.length
    · rw [List.getElem?_append_left (by rw [List.length_map]; exact hi), List.getElem?_map] at e
      rw [List.getElem?_eq_getElem hi] at e
      have e : Slot.sh ps[i] = z := Option.some.inj e
      subst e
      obtain ⟨v, hv, pv⟩ := r.get (List.getElem?_eq_getElem hi)
      refine ⟨v, ?_, pv⟩
      unfold L2.start
      rw [List.getElem?_append_left (by rw [List.length_map, ← hl]; exact hi), List.getElem?_map, hv]
      rfl
    · rw [List.getElem?_append_right (by rw [List.length_map]; omega), List.getElem?_replicate] at e
      split at e
      · cases e; trivial
      · cases e
/-- THE RULE for a def that only makes new things -/
theorem fun_pure {α : Type} {pre : α → Prop} {args : α → List Rp} {res : α → Rp} {x qual : Str} {st : Stmt} {f : Addr} {fd : FuncData} {N ps : List Str} {k : Nat} (F : Fun K x qual st f fd) (S : FnScope N ps (defScope st)) (hlen : ∀ x, (args x).length = ps.length)
    (hbody : ∀ (cdv : Value) (A : Around) (outer : List Env) (s : Shared) (H : Hp) (E : XK), Room k (A.deeper (envOfC qual (defScope st) s.heap.objs.size f cdv)) →
      ∃ t, PSs (cxOf CX0 P w K mg base N qual (defScope st) f cdv A outer s H E).nox (defBody st) t ∧ ∀ x, pre x → DenS t (rho0 N (args x)) (.rt (res x))) : FnOk P w K mg base CX0 (k + 1) f fd ps (SpF pre args res) := by
  refine F.ok S (fun vs H Q E ⟨x, G, _, _, r, _⟩ => by rw [← r.length]; exact hlen x) (fun cdv A outer s H vs Q E hr ⟨x, G, hp, sG, r, kk⟩ => ?_)
  obtain ⟨t, h1, h2⟩ := hbody cdv A outer s H E hr
  exact ⟨t, h1, h2 x hp G H G H _ (fr_start sG r) _ kk⟩
theorem fun_new {α : Type} {pre : α → Prop} {args : α → List Rp} {res : α → List Rp} {x qual : Str} {st : Stmt} {f : Addr} {fd : FuncData} {N ps : List Str} {k : Nat} (F : Fun K x qual st f fd) (S : FnScope N ps (defScope st)) (hlen : ∀ x, (args x).length = ps.length)
    (hbody : ∀ (cdv : Value) (A : Around) (outer : List Env) (s : Shared) (H : Hp) (E : XK), Room k (A.deeper (envOfC qual (defScope st) s.heap.objs.size f cdv)) →
      ∃ t, PSs (cxOf CX0 P w K mg base N qual (defScope st) f cdv A outer s H E).nox (defBody st) t ∧ ∀ x, pre x → DenS t (rho0 N (args x)) (.rtF (res x))) : FnOk P w K mg base CX0 (k + 1) f fd ps (SpN pre args res) := by
  refine F.ok S (fun vs H Q E ⟨x, G, _, _, r, _⟩ => by rw [← r.length]; exact hlen x) (fun cdv A outer s H vs Q E hr ⟨x, G, hp, sG, r, kk⟩ => ?_)
  obtain ⟨t, h1, h2⟩ := hbody cdv A outer s H E hr
  exact ⟨t, h1, h2 x hp G H G H _ (fr_start sG r) _ kk⟩
end

structure At (K : PySem.W.Frag) (mg : Str → Option Value) (x : Str) (st : Stmt) (ps : List Str) : Prop where
  ex : ∃ (f : Addr) (fd : FuncData), Fun K x x st f fd ∧ mg x = some (.ref f) ∧ Binds K fd ps []
structure Cal (P : Program) (w : World) (K : PySem.W.Frag) (mg : Str → Option Value) (base : Heap) (k : Nat) (x : Str) (ps : List Str) (sp : Sp) : Prop where
  ex : ∃ (f : Addr) (fd : FuncData), FnOk P w K mg base CX0 k f fd ps sp ∧ mg x = some (.ref f) ∧ PySem.W.keepIn K (.ref f) = true ∧ Binds K fd ps [] ∧ ∃ (oc : Value) (od : Option Addr) (osl : Array (Option Value)), K.lookup f = some ⟨oc, od, .func fd, osl⟩
theorem At.cal {P : Program} {w : World} {K : PySem.W.Frag} {mg : Str → Option Value} {base : Heap} {k : Nat} {x : Str} {st : Stmt} {ps : List Str} {sp : Sp} (h : At K mg x st ps) (hF : ∀ (f : Addr) (fd : FuncData), Fun K x x st f fd → FnOk P w K mg base CX0 k f fd ps sp) : Cal P w K mg base k x ps sp := by
  obtain ⟨f, fd, h1, h2, h3⟩ := h.ex
  obtain ⟨oc, od, _, _, _, _, _, _, osl, _, hl, _⟩ := h1.ex
  exact ⟨f, fd, hF f fd h1, h2, h1.kp, h3, oc, od, osl, hl⟩
theorem pe_cal {X : Cx} {k : Nat} {x : Str} {ps : List Str} {sp : Sp} {e : Expr} {es : List Expr} {t : TA} {p pos : Pos} (C : Cal X.prog X.w X.K X.mg X.base k x ps sp) (hr : Room k X.A) (hg : Gl X x)
    (ha : PA X (e :: es) t) (hdb : (x == ("__debug__" : Str)) = false := by decide) (he : starEach (e :: es) X.env = (false, eval e X.env) :: starEach es X.env := by rfl) (hpl : (backTo pos (starEach es X.env)).any (·.1) = false := by rfl) :
    PE X (.Call (.Name x p) (e :: es) [] pos) (tCall sp [] E0 t) := by
  obtain ⟨f, fd, h1, h2, h3, h4, _⟩ := C.ex
  exact pe_call h1 hr hg h2 h3 h4 .nil pass0 ha hdb he hpl
/-- a constant of the module -/
structure Con1 (mg : Str → Option Value) (x : Str) (v : V) : Prop where
  ex : ∃ u, mg x = some u ∧ RelV v u
theorem pe_con1 {X : Cx} {x : Str} {v : V} {pos : Pos} (C : Con1 X.mg x v) (hg : Gl X x) (hd : (x == ("__debug__" : Str)) = false := by decide) : PE X (.Name x pos) (tC v) := by
  obtain ⟨u, h1, h2⟩ := C.ex
  exact pe_glob hg h1 h2 hd
end EM
end

section
set_option Elab.async false
set_option linter.all false
namespace EM
open ShMat ShMatSeed
theorem low_pos (t : Int) (d : Nat) (hd : d ≠ 0) : ((t : Rat) / ((d : Int) : Rat)).num = t.fdiv (Int.gcd t d) ∧ ((((t : Rat) / ((d : Int) : Rat)).den : Nat) : Int) = (d : Int).fdiv (Int.gcd t d) := by
  have e : (t : Rat) / ((d : Int) : Rat) = Rat.normalize t d hd := by
    rw [Rat.normalize_eq_mkRat, Rat.mkRat_eq_div]; rfl
  rw [e, Rat.normalize_eq]
  constructor
  · show t / ((t.natAbs.gcd d : Nat) : Int) = _
    rw [Int.fdiv_eq_ediv_of_nonneg _ (by omega)]; rfl
  · show ((d / t.natAbs.gcd d : Nat) : Int) = _
    rw [Int.fdiv_eq_ediv_of_nonneg _ (by omega)]
    rw [Int.natCast_ediv]; rfl
theorem cast_ne {d : Int} (h : d ≠ 0) : ((d : Int) : Rat) ≠ 0 := by exact_mod_cast h
theorem low_neg (t : Int) (d : Nat) (hd : d ≠ 0) : ((t : Rat) / ((-(d : Int) : Int) : Rat)) = (((-t : Int) : Rat)) / ((d : Int) : Rat) := by
  have : ((d : Int) : Rat) ≠ 0 := cast_ne (by omega)
  simp only [Rat.intCast_neg]
  grind
def lowG (t b : Int) : Int := if b < 0 then -(Int.gcd t b : Int) else (Int.gcd t b : Int)
theorem low_spec (t b : Int) (hb : b ≠ 0) : t.fdiv (lowG t b) = ((t : Rat) / (b : Rat)).num ∧ b.fdiv (lowG t b) = ((((t : Rat) / (b : Rat)).den : Nat) : Int) := by
  unfold lowG
  by_cases h : b < 0
  · rw [if_pos h]
    obtain ⟨d, rfl⟩ : ∃ d : Nat, b = -(d : Int) := ⟨b.natAbs, by omega⟩
    have hd : d ≠ 0 := by omega
    rw [low_neg t d hd]
    have := low_pos (-t) d hd
    rw [this.1, this.2]
    have g1 : Int.gcd (-t) (d : Int) = Int.gcd t (d : Int) := Int.neg_gcd
    have g2 : Int.gcd t (-(d : Int)) = Int.gcd t (d : Int) := Int.gcd_neg
    rw [g1, g2]
    constructor
    · have := Int.neg_fdiv_neg (-t) (Int.gcd t (d : Int)); rw [Int.neg_neg] at this; exact this
    · exact Int.neg_fdiv_neg _ _
  · rw [if_neg h]
    obtain ⟨d, rfl⟩ : ∃ d : Nat, b = (d : Int) := ⟨b.natAbs, by omega⟩
    have := low_pos t d (by omega)
    exact ⟨this.1.symm, this.2.symm⟩
theorem lowG_ne (t b : Int) (hb : b ≠ 0) : lowG t b ≠ 0 := by
  have : Int.gcd t b ≠ 0 := fun z => hb (Int.gcd_eq_zero_iff.mp z).2
  unfold lowG; split <;> omega
/-- sizes -/
def Bd (n : Nat) (r : Rat) : Prop := r.num.natAbs < 2 ^ n ∧ r.den < 2 ^ n
theorem rat_eq (r : Rat) : r = (r.num : Rat) / ((r.den : Int) : Rat) := by
  have := Rat.num_divInt_den r
  rw [Rat.divInt_eq_div] at this; exact this.symm
theorem natAbs_mul_lt {a b : Int} {m n : Nat} (ha : a.natAbs < 2 ^ m) (hb : b.natAbs < 2 ^ n) : (a * b).natAbs < 2 ^ (m + n) := by
  rw [Int.natAbs_mul, Nat.pow_add]
  exact Nat.mul_lt_mul'' ha hb
theorem natAbs_add_lt {a b : Int} {m n : Nat} (ha : a.natAbs < 2 ^ m) (hb : b.natAbs < 2 ^ n) : (a + b).natAbs < 2 ^ (max m n + 1) := by
  have h1 := Nat.lt_of_lt_of_le ha (Nat.pow_le_pow_right (by decide) (Nat.le_max_left m n))
  have h2 := Nat.lt_of_lt_of_le hb (Nat.pow_le_pow_right (by decide) (Nat.le_max_right m n))
  rw [Nat.pow_succ]; omega
theorem natAbs_mono {a : Int} {m n : Nat} (ha : a.natAbs < 2 ^ m) (h : m ≤ n) : a.natAbs < 2 ^ n := Nat.lt_of_lt_of_le ha (Nat.pow_le_pow_right (by decide) h)
def okq (p q : Int) : Prop := 1 ≤ q ∧ q < (BIG : Int) ∧ p.natAbs < BIG
instance (p q : Int) : Decidable (okq p q) := by unfold okq; infer_instance
theorem quot_some : ∀ (l : List Int) (r : List Rat), quotients l = some r → l.length = 2 * r.length ∧ ∀ i, i < r.length → ∃ p q, l[2 * i]? = some p ∧ l[2 * i + 1]? = some q ∧ okq p q ∧ r[i]? = some ((p : Rat) / (q : Rat))
  | [], r, h => by simp [quotients] at h; subst h; simp
  | [_], r, h => by simp [quotients] at h
  | p :: q :: l, r, h => by
    unfold quotients at h
    split at h
    · rename_i hq
      cases e : quotients l with
      | none => rw [e] at h; simp at h
      | some s =>
        rw [e] at h; simp at h; subst h
        obtain ⟨h1, h2⟩ := quot_some l s e
        refine ⟨by simp [h1]; omega, fun i hi => ?_⟩
        cases i with
        | zero => exact ⟨p, q, rfl, rfl, hq, rfl⟩
        | succ i =>
          obtain ⟨p', q', a, b, c, d⟩ := h2 i (by simpa using hi)
          refine ⟨p', q', ?_, ?_, c, by simpa using d⟩
          · rw [show 2 * (i + 1) = 2 * i + 1 + 1 by omega]; simpa using a
          · rw [show 2 * (i + 1) + 1 = 2 * i + 1 + 1 + 1 by omega]; simpa using b
    · simp at h
theorem quot_none : ∀ (l : List Int) (n : Nat), l.length = 2 * n → quotients l = none → ∃ i, i < n ∧ ∃ p q, l[2 * i]? = some p ∧ l[2 * i + 1]? = some q ∧ ¬ okq p q ∧ ∀ j, j < i → ∃ p q, l[2 * j]? = some p ∧ l[2 * j + 1]? = some q ∧ okq p q
  | [], n, hl, h => by simp [quotients] at h
  | [_], n, hl, h => by simp at hl; omega
  | p :: q :: l, n, hl, h => by
    unfold quotients at h
    have hn : 0 < n := by simp at hl; omega
    by_cases hq : okq p q
    · have hq' : 1 ≤ q ∧ q < (BIG : Int) ∧ p.natAbs < BIG := hq
      rw [if_pos hq'] at h
      have e : quotients l = none := by
        cases e : quotients l with
        | none => rfl
        | some s => rw [e] at h; simp at h
      obtain ⟨i, hi, p', q', a, b, c, d⟩ := quot_none l (n - 1) (by simp at hl; omega) e
      refine ⟨i + 1, by omega, p', q', ?_, ?_, c, fun j hj => ?_⟩
      · rw [show 2 * (i + 1) = 2 * i + 1 + 1 by omega]; simpa using a
      · rw [show 2 * (i + 1) + 1 = 2 * i + 1 + 1 + 1 by omega]; simpa using b
      · cases j with
        | zero => exact ⟨p, q, rfl, rfl, hq⟩
        | succ j =>
          obtain ⟨p'', q'', a', b', c'⟩ := d j (by omega)
          refine ⟨p'', q'', ?_, ?_, c'⟩
          · rw [show 2 * (j + 1) = 2 * j + 1 + 1 by omega]; simpa using a'
          · rw [show 2 * (j + 1) + 1 = 2 * j + 1 + 1 + 1 by omega]; simpa using b'
    · exact ⟨0, hn, p, q, rfl, rfl, hq, fun j hj => absurd hj (by omega)⟩
/-- what a matrix is, as the program asks it -/
def side (n : Int) : Prop := 1 ≤ n ∧ n ≤ 9
theorem matOf_no1 {l : List Int} (h : ¬ ∃ n m r, l = n :: m :: r ∧ side n ∧ side m) : matOf l = none := by
  match l, h with
  | [], _ => rfl
  | [_], _ => rfl
  | n :: m :: r, h =>
    unfold matOf
    dsimp only
    rw [if_neg]
    intro ⟨a, b, c, d⟩
    exact h ⟨n, m, r, rfl, ⟨a, b⟩, ⟨c, d⟩⟩
theorem matOf_no2 {n m : Int} {r : List Int} (hn : side n) (hm : side m) (h : ((n :: m :: r).length : Int) ≠ 2 + 2 * n * m) : matOf (n :: m :: r) = none := by
  unfold matOf
  dsimp only
  rw [if_pos ⟨hn.1, hn.2, hm.1, hm.2⟩]
  cases e : quotients r with
  | none => rfl
  | some s =>
    obtain ⟨h1, _⟩ := quot_some r s e
    show (if s.length = n.toNat * m.toNat then _ else none) = none
    rw [if_neg]
    intro z
    apply h
    obtain ⟨n1, n2⟩ := hn
    obtain ⟨m1, m2⟩ := hm
    simp only [List.length_cons]
    have : (s.length : Int) = n * m := by
      rw [z, Int.natCast_mul, Int.toNat_of_nonneg (by omega), Int.toNat_of_nonneg (by omega)]
    have e2 : 2 * n * m = 2 * (n * m) := by rw [Int.mul_assoc]
    omega
theorem matOf_eq {n m : Int} {r : List Int} (hn : side n) (hm : side m) (h : ((n :: m :: r).length : Int) = 2 + 2 * n * m) : matOf (n :: m :: r) = (quotients r).map (inRows m.toNat n.toNat) := by
  unfold matOf
  dsimp only
  rw [if_pos ⟨hn.1, hn.2, hm.1, hm.2⟩]
  cases e : quotients r with
  | none => rfl
  | some s =>
    obtain ⟨h1, _⟩ := quot_some r s e
    show (if s.length = n.toNat * m.toNat then _ else none) = _
    rw [if_pos]; rfl
    obtain ⟨n1, n2⟩ := hn
    obtain ⟨m1, m2⟩ := hm
    simp only [List.length_cons] at h
    have e2 : 2 * n * m = 2 * (n * m) := by rw [Int.mul_assoc]
    have : (s.length : Int) = n * m := by omega
    have e3 : ((n.toNat * m.toNat : Nat) : Int) = n * m := by
      rw [Int.natCast_mul, Int.toNat_of_nonneg (by omega), Int.toNat_of_nonneg (by omega)]
    omega
theorem inRows_eq (m : Nat) : ∀ (n : Nat) (l : List Rat), inRows m n l = (List.range n).map fun i => (l.drop (i * m)).take m
  | 0, l => rfl
  | n + 1, l => by
    rw [inRows, inRows_eq m n, List.range_succ_eq_map, List.map_cons, List.map_map]
    simp only [Nat.zero_mul, List.drop_zero]
    congr 1
    apply List.map_congr_left
    intro i _
    simp only [Function.comp, List.drop_drop]
    congr 2
    rw [Nat.succ_mul]; omega

theorem bd_div {p q : Int} {n : Nat} (hq : 1 ≤ q) (h1 : p.natAbs < 2 ^ n) (h2 : q < 2 ^ n) : Bd n ((p : Rat) / (q : Rat)) := by
  obtain ⟨d, rfl⟩ : ∃ d : Nat, q = (d : Int) := ⟨q.natAbs, by omega⟩
  have hd : d ≠ 0 := by omega
  have e : (p : Rat) / ((d : Int) : Rat) = Rat.normalize p d hd := by
    rw [Rat.normalize_eq_mkRat, Rat.mkRat_eq_div]; rfl
  rw [e, Rat.normalize_eq]
  constructor
  · show (p / ((p.natAbs.gcd d : Nat) : Int)).natAbs < 2 ^ n
    exact Nat.lt_of_le_of_lt (Int.natAbs_ediv_le_natAbs _ _) h1
  · show d / p.natAbs.gcd d < 2 ^ n
    have : d < 2 ^ n := by exact_mod_cast h2
    exact Nat.lt_of_le_of_lt (Nat.div_le_self _ _) this
theorem big_lt : BIG < 2 ^ 133 := by decide
theorem bd_ok {p q : Int} (h : okq p q) : Bd 133 ((p : Rat) / (q : Rat)) :=
  bd_div h.1 (Nat.lt_trans h.2.2 big_lt) (Int.lt_trans h.2.1 (by exact_mod_cast big_lt))
/-- the shape of a matrix -/
structure Wf (n m : Nat) (a : Mat) : Prop where
  n0 : 1 ≤ n
  m0 : 1 ≤ m
  len : a.length = n
  row : ∀ r ∈ a, r.length = m
def BdM (k : Nat) (a : Mat) : Prop := ∀ r ∈ a, ∀ x ∈ r, Bd k x
theorem Wf.rows {n m : Nat} {a : Mat} (h : Wf n m a) : ShMat.rows a = n := h.len
theorem Wf.getRow {n m : Nat} {a : Mat} (h : Wf n m a) {i : Nat} (hi : i < n) : ∃ r, a[i]? = some r ∧ a.getD i [] = r ∧ r.length = m ∧ r ∈ a := by
  have hi' : i < a.length := by rw [h.len]; exact hi
  exact ⟨a[i], List.getElem?_eq_getElem hi', by simp [List.getD, hi'], h.row _ (List.getElem_mem hi'), List.getElem_mem hi'⟩
theorem inRows_wf {n m : Nat} (hn : 1 ≤ n) (hm : 1 ≤ m) {r : List Rat} (h : r.length = n * m) : Wf n m (inRows m n r) := by
  refine ⟨hn, hm, by rw [inRows_eq]; simp, fun row hr => ?_⟩
  rw [inRows_eq, List.mem_map] at hr
  obtain ⟨i, hi, rfl⟩ := hr
  have hi := List.mem_range.mp hi
  rw [List.length_take, List.length_drop, h]
  have : (i + 1) * m ≤ n * m := Nat.mul_le_mul_right m hi
  rw [Nat.succ_mul] at this
  omega
/-- a matrix that was handed in, all that is known of it -/
theorem matOf_some {l : List Int} {a : Mat} (h : matOf l = some a) : ∃ n m : Nat, ∃ r : List Rat, n ≤ 9 ∧ m ≤ 9 ∧ Wf n m a ∧ BdM 133 a ∧ l[0]? = some (n : Int) ∧ l[1]? = some (m : Int) ∧ l.length = 2 + 2 * (n * m) ∧ r.length = n * m ∧ a = inRows m n r ∧
    ∀ i, i < n * m → ∃ p q, l[2 + 2 * i]? = some p ∧ l[2 + 2 * i + 1]? = some q ∧ okq p q ∧ r[i]? = some ((p : Rat) / (q : Rat)) := by
  match l, h with
  | [], h => simp [matOf] at h
  | [_], h => simp [matOf] at h
  | n :: m :: l, h =>
    unfold matOf at h
    dsimp only at h
    split at h
    · rename_i hs
      obtain ⟨h1, h2, h3, h4⟩ := hs
      have h2 : n ≤ 9 := h2
      have h4 : m ≤ 9 := h4
      split at h
      · rename_i r e
        split at h
        · rename_i hl
          simp at h
          obtain ⟨q1, q2⟩ := quot_some l r e
          refine ⟨n.toNat, m.toNat, r, by omega, by omega, h ▸ inRows_wf (by omega) (by omega) hl, ?_, ?_, ?_, by simp; omega, hl, h.symm, fun i hi => ?_⟩
          · subst h
            intro row hr x hx
            rw [inRows_eq, List.mem_map] at hr
            obtain ⟨i, _, rfl⟩ := hr
            have hx := List.mem_of_mem_drop (List.mem_of_mem_take hx)
            obtain ⟨k, hk, rfl⟩ := List.getElem_of_mem hx
            obtain ⟨p, q, _, _, ok, e⟩ := q2 k hk
            rw [List.getElem?_eq_getElem hk] at e
            rw [Option.some.inj e]
            exact bd_ok ok
          · simp; omega
          · simp; omega
          · obtain ⟨p, q, a, b, c, d⟩ := q2 i (by rw [hl]; exact hi)
            refine ⟨p, q, ?_, ?_, c, d⟩
            · rw [show 2 + 2 * i = 2 * i + 1 + 1 by omega]; simpa using a
            · rw [show 2 + 2 * i + 1 = 2 * i + 1 + 1 + 1 by omega]; simpa using b
        · simp at h
      · simp at h
    · simp at h
end EM
end

section
set_option Elab.async false
set_option linter.all false
namespace EM
open ShMat
theorem make_len (n m : Nat) (f : Nat → Nat → Rat) : (make n m f).length = n := by unfold make; simp
theorem make_row {n m : Nat} {f : Nat → Nat → Rat} : ∀ r ∈ make n m f, r.length = m := by
  intro r hr
  unfold make at hr
  obtain ⟨i, _, rfl⟩ := List.mem_map.mp hr
  simp
theorem make_get {n m : Nat} {f : Nat → Nat → Rat} {i : Nat} (hi : i < n) : (make n m f)[i]? = some ((List.range m).map fun j => f i j) := by
  unfold make; simp [hi]
theorem at_make {n m : Nat} {f : Nat → Nat → Rat} {i j : Nat} (hi : i < n) (hj : j < m) : at_ (make n m f) i j = f i j := by
  unfold at_; simp only [List.getD_eq_getElem?_getD]; rw [make_get hi]; simp [hj]
theorem Wf.at_row {n m : Nat} {a : Mat} (h : Wf n m a) {i : Nat} (hi : i < n) : a[i]? = some ((List.range m).map fun j => at_ a i j) := by
  obtain ⟨r, h1, h2, h3, h4⟩ := h.getRow hi
  rw [h1]
  congr 1
  apply List.ext_getElem
  · simp [h3]
  · intro j g1 g2
    simp only [List.getElem_map, List.getElem_range]
    unfold at_
    rw [h2, List.getD_eq_getElem?_getD, List.getElem?_eq_getElem g1]; rfl
theorem Wf.eq_make {n m : Nat} {a : Mat} (h : Wf n m a) : a = make n m (at_ a) := by
  apply List.ext_getElem?
  intro i
  by_cases hi : i < n
  · rw [h.at_row hi, make_get hi]
  · rw [List.getElem?_eq_none (by rw [h.len]; omega), List.getElem?_eq_none (by rw [make_len]; omega)]
theorem BdM.at {k n m : Nat} {a : Mat} (h : BdM k a) (w : Wf n m a) {i j : Nat} (hi : i < n) (hj : j < m) : Bd k (at_ a i j) := by
  obtain ⟨r, h1, h2, h3, h4⟩ := w.getRow hi
  unfold at_
  rw [h2, List.getD_eq_getElem?_getD, List.getElem?_eq_getElem (by omega)]
  exact h r h4 _ (List.getElem_mem _)
end EM
end

section
set_option Elab.async false
set_option linter.all false
set_option Elab.async false
set_option maxRecDepth 100000
namespace EM
open PySem PySem.Spec PyProof.Rows L2
structure Seen (st : List Env) (P : Program) : Prop where
  ex : ∃ env l, st = env :: l ∧ env.scope.isGenerator = false ∧ env.scope.isCoroutine = false ∧ env.builtins = builtinsNs ∧ env.globals = mainGlobals
  tree : P.given.tree = none
section
variable {X : Cx}
theorem op_fdivP {k : Nat} (hr : Room k X.A) (hk : 32 ≤ k) (hs : Seen X.stack X.prog) : OpR X (binaryOp .FloorDiv) (rI (fun _ j => j ≠ 0) fun i j => .int (i.fdiv j)) := by
  intro pins s σ H x y v u Q I rx ry h
  obtain ⟨i, j, rfl, rfl, hc, q⟩ := h
  obtain ⟨t, rfl⟩ := rx
  obtain ⟨t', rfl⟩ := ry
  obtain ⟨env, l, e1, e2, e3, e4, e5⟩ := hs.ex
  refine floordiv_int hc ⟨.int _, H, I.tok _, ⟨_, rfl⟩, q⟩ (.inr (PylongRoom.of I.nolimit ?_ ?_))
  · have h1 := hr.dp
    have h2 : recursionLimit = 1000 := rfl
    have h3 : Builtin.pylongFrames = 100 := rfl
    omega
  · exact SeerAt.of (I.ok.mod.seer.keeps I.bk) hs.tree (by rw [I.ok.frames, e1]) e2 e3 e4 e5
end
theorem seen_cx {N ps : List Str} {scope : Scope} {qual : Str} {n f : Addr} {cdv : Value} {outer : List Env} {P : Program} (S : FnScope N ps scope) (hP : P.given.tree = none) : Seen (envOfC qual scope n f cdv :: outer) P :=
  ⟨⟨_, _, rfl, S.gen, S.co, rfl, rfl⟩, hP⟩
theorem bits_le {a : Int} {m : Nat} (h : a.natAbs < 2 ^ m) : Builtin.Int.intBits a ≤ m := by
  unfold Builtin.Int.intBits
  split
  · exact Nat.zero_le _
  · rename_i h0
    have hn : a.natAbs ≠ 0 := by
      intro z; apply h0; have : a = 0 := by omega
      subst this; rfl
    have := (Nat.log2_lt hn).mpr h
    omega
theorem mulOk {a b : Int} {m n : Nat} (ha : a.natAbs < 2 ^ m) (hb : b.natAbs < 2 ^ n) (h : m + n ≤ 100000000) : IntMulOk a b := by
  have h1 := bits_le ha
  have h2 := bits_le hb
  have e : Builtin.Int.intTooBig (Builtin.Int.intBits a + Builtin.Int.intBits b) = false := by
    unfold Builtin.Int.intTooBig bitsLine
    refine decide_eq_false ?_
    have e1 : (2 : Nat) ^ 27 = 134217728 := by decide
    omega
  unfold IntMulOk
  rw [e]
  simp
def rQ (r : Rat) : Rp := rTup [rI' r.num, rI' r.den]
def rRow (xs : List Rat) : Rp := rLst (xs.map rQ)
def rMat (a : ShMat.Mat) : Rp := rLst (a.map rRow)
def rRowZ (xs : List Int) : Rp := rLst (xs.map rI')
theorem abs_if (i : Int) : (if i < 0 then -i else i) = (i.natAbs : Int) := by split <;> omega
theorem gcd_step (m n : Nat) (h : n ≠ 0) : Nat.gcd n (m % n) = Nat.gcd m n := by
  rw [Nat.gcd_comm m n, Nat.gcd_rec n m, Nat.gcd_comm]
end EM
end

section
set_option Elab.async false
set_option linter.all false
set_option Elab.async false
set_option maxRecDepth 100000
namespace EM
open PySem PySem.Spec PyProof.Rows L2
section
variable {X : Cx} {K : PySem.W.Frag}
theorem ix_seqK (h : X.K = K) : IxR X (rIx K) := h ▸ ix_seq
theorem pg_tupK {es : List Expr} {k : Nat} {t : TGs} {n : Nat} {pos : Pos} (h : X.K = K) (hc : X.calm = true) (hp : PGs X es t) (hn : (assignEach es X.env).length = n := by rfl) (hst : (assignEach es X.env).findIdx? (·.1) = none := by rfl) : PG X (.Tuple es k pos) (gTup K n t) := h ▸ pg_tup hc hp hn hst
theorem call_lenK (h : X.K = K) : CallR X (.builtin "len") (lenR K) := h ▸ call_len_seq
end
theorem rgc {i c : Int} {n : Nat} (hi : 0 ≤ i) (hc : 0 < c) (hc2 : c < 1000000000) (hb : i + c * n < 1000000000000) : RgC i (i + c * n) c n := by
  have hs : Builtin.Range.rangeSize i (i + c * n) c = n := by
    unfold Builtin.Range.rangeSize
    rw [if_pos hc]
    cases n with
    | zero => rw [if_neg (by simp)]; rfl
    | succ n =>
      have h1 : (0 : Int) < c * ((n + 1 : Nat) : Int) := Int.mul_pos hc (by omega)
      rw [if_pos (by omega)]
      have e : i + c * ((n + 1 : Nat) : Int) - i - 1 = (c - 1) + (n : Int) * c := by
        have : c * ((n + 1 : Nat) : Int) = (n : Int) * c + c := by
          rw [Int.natCast_add, Int.mul_add, Int.mul_comm c]; simp
        omega
      rw [e, Int.add_mul_ediv_right _ _ (by omega), Int.ediv_eq_zero_of_lt (by omega) (by omega)]
      omega
  have hn : 0 ≤ c * (n : Int) := Int.mul_nonneg (by omega) (by omega)
  have hn2 : (n : Int) ≤ c * n := by
    have := Int.mul_le_mul_of_nonneg_right (show (1 : Int) ≤ c by omega) (show (0 : Int) ≤ n by omega)
    omega
  refine ⟨by omega, by omega, ?_, hs⟩
  unfold Builtin.Range.small
  rw [hs, if_pos hc]
  generalize c * (n : Int) = d at *
  simp only [Builtin.Range.rangeFitsLong, Bool.and_eq_true, Bool.or_eq_true, decide_eq_true_eq, beq_iff_eq]
  omega
section
variable {ρ : List Slot} {K : PySem.W.Frag}
theorem den_num {t : TE} {r : Rat} (h : Den t ρ (rQ r)) : Den (tOp (rIx K) t (tC (.int 0))) ρ (rI' r.num) := den_ixT h (den_c _) (by decide) rfl
theorem den_den {t : TE} {r : Rat} (h : Den t ρ (rQ r)) : Den (tOp (rIx K) t (tC (.int 1))) ρ (rI' r.den) := den_ixT h (den_c _) (by decide) rfl
theorem dens_drop {t : TS} {ρ1 : List Slot} (i : Nat) (h : DenS t ρ (.nx ρ1)) : DenS t ρ (.nx (ρ1.set i .no)) := fun G0 H0 G H σ F D k => h G0 H0 G H σ F D fun σ' G' H' s F' => k σ' G' H' s (F'.forget i)
theorem dens_ifr {tc : TT} {t u : TS} {b : Bool} {p : Rp} (hc : DenT tc ρ b) (ht : b = true → DenS t ρ (.rt p)) (hu : b = false → DenS u ρ (.rt p)) : DenS (tSeq (tIfS tc t tNext) u) ρ (.rt p) := by
  cases b with
  | true => exact dens_seqR (dens_if hc ht (fun h => by cases h))
  | false => exact dens_seq (dens_if hc (fun h => by cases h) (fun _ => dens_next)) (hu rfl)
theorem dens_ifrF {tc : TT} {t u : TS} {b : Bool} {ps : List Rp} (hc : DenT tc ρ b) (ht : b = true → DenS t ρ (.rtF ps)) (hu : b = false → DenS u ρ (.rtF ps)) : DenS (tSeq (tIfS tc t tNext) u) ρ (.rtF ps) := by
  cases b with
  | true => exact dens_seqRF (dens_if hc ht (fun h => by cases h))
  | false => exact dens_seq (dens_if hc (fun h => by cases h) (fun _ => dens_next)) (hu rfl)
end
open ShMat
theorem rowIx {n m : Nat} {a : Mat} (h : Wf n m a) {i : Nat} (hi : i < n) : (a.map rRow)[i]? = some (rRow ((List.range m).map fun j => at_ a i j)) := by
  rw [List.getElem?_map, h.at_row hi]; rfl
theorem rowGet {m : Nat} {f : Nat → Rat} {j : Nat} (hj : j < m) : (((List.range m).map f).map rQ)[j]? = some (rQ (f j)) := by
  simp [hj]
theorem rRow_make (m : Nat) (f : Nat → Rat) : rRow ((List.range m).map f) = rLst ((List.range m).map fun j => rQ (f j)) := by
  unfold rRow; rw [List.map_map]; rfl
theorem rMat_make (n m : Nat) (f : Nat → Nat → Rat) : rMat (make n m f) = rLst ((List.range n).map fun i => rRow ((List.range m).map fun j => f i j)) := by
  unfold rMat make; rw [List.map_map]; rfl
abbrev BB : Int := 10000000000000000000000000000000000000000
theorem BB_eq : (ShMatSeed.BIG : Int) = BB := by decide
theorem okB (p q : Int) : ((!(decide (-BB < p) && decide (p < BB))) || (!(decide (1 ≤ q) && decide (q < BB)))) = !decide (okq p q) := by
  have e : okq p q ↔ (1 ≤ q ∧ q < BB ∧ (-BB < p ∧ p < BB)) := by
    unfold okq
    have h : p.natAbs < ShMatSeed.BIG ↔ (-BB < p ∧ p < BB) := by
      rw [← BB_eq]; omega
    rw [h, BB_eq]
  by_cases h : okq p q
  · obtain ⟨h1, h2, h3, h4⟩ := e.mp h
    rw [decide_eq_true h, decide_eq_true h1, decide_eq_true h2, decide_eq_true h3, decide_eq_true h4]; rfl
  · rw [decide_eq_false h]
    by_cases h1 : 1 ≤ q
    · by_cases h2 : q < BB
      · by_cases h3 : -BB < p
        · by_cases h4 : p < BB
          · exact absurd (e.mpr ⟨h1, h2, h3, h4⟩) h
          · rw [decide_eq_false h4]; simp
        · rw [decide_eq_false h3]; simp
      · rw [decide_eq_false h2]; simp
    · rw [decide_eq_false h1]; simp
structure Told (l : List Int) (a : Mat) (n m : Nat) (r : List Rat) : Prop where
  n9 : n ≤ 9
  m9 : m ≤ 9
  wf : Wf n m a
  l0 : l[0]? = some (n : Int)
  l1 : l[1]? = some (m : Int)
  len : l.length = 2 + 2 * (n * m)
  rl : r.length = n * m
  eq : a = ShMatSeed.inRows m n r
  at_ : ∀ i, i < n * m → ∃ p q, l[2 + 2 * i]? = some p ∧ l[2 + 2 * i + 1]? = some q ∧ okq p q ∧ r[i]? = some ((p : Rat) / (q : Rat))
theorem told {l : List Int} {a : Mat} (h : ShMatSeed.matOf l = some a) : ∃ n m r, Told l a n m r ∧ BdM 133 a := by
  obtain ⟨n, m, r, h1, h2, h3, h4, h5, h6, h7, h8, h9, h10⟩ := matOf_some h
  exact ⟨n, m, r, ⟨h1, h2, h3, h5, h6, h7, h8, h9, h10⟩, h4⟩
theorem Told.cell {l : List Int} {a : Mat} {n m : Nat} {r : List Rat} (h : Told l a n m r) {i j : Nat} (hi : i < n) (hj : j < m) : ∃ p q, l[2 + 2 * (i * m + j)]? = some p ∧ l[2 + 2 * (i * m + j) + 1]? = some q ∧ okq p q ∧ ShMat.at_ a i j = (p : Rat) / (q : Rat) := by
  have hk : i * m + j < n * m := by
    have : (i + 1) * m ≤ n * m := Nat.mul_le_mul_right m hi
    rw [Nat.succ_mul] at this; omega
  obtain ⟨p, q, h1, h2, h3, h4⟩ := h.at_ _ hk
  refine ⟨p, q, h1, h2, h3, ?_⟩
  have e : a[i]? = some ((r.drop (i * m)).take m) := by
    rw [h.eq, inRows_eq]; simp [hi]
  unfold ShMat.at_
  simp only [List.getD_eq_getElem?_getD]
  rw [e]
  show (((r.drop (i * m)).take m)[j]?).getD 0 = _
  rw [List.getElem?_take_of_lt hj, List.getElem?_drop, h4]; rfl
theorem dw_reps {K : PySem.W.Frag} {G H : Hp} : ∀ {ns : List Int} {us : List V}, Reps G (ns.map rI') us → DwAll K H us (ns.map PySem.W.WData.int)
  | [], _, .nil => .nil
  | n :: _, _, .cons h t => by
    have e : _ = V.int n := h
    subst e
    exact .cons (.int n) (dw_reps t)
theorem Cal.fn {P : Program} {w : World} {K : PySem.W.Frag} {mg : Str → Option Value} {base : Heap} {k : Nat} {x : Str} {ps : List Str} {sp : Sp} (C : Cal P w K mg base k x ps sp) {f : Addr} {fd : FuncData} {st : Stmt} (hm : mg x = some (.ref f)) (F : Fun K x x st f fd) : FnOk P w K mg base CX0 k f fd ps sp := by
  obtain ⟨f', fd', h1, h2, _, _, oc, od, osl, hl⟩ := C.ex
  rw [hm] at h2
  cases h2
  obtain ⟨oc2, od2, _, _, _, _, _, _, osl2, _, hl2, _⟩ := F.ex
  rw [hl] at hl2
  cases hl2
  exact h1
theorem at_mk {K : PySem.W.Frag} {h : Heap} {mg : Str → Option Value} (X : K.In h) (G : h.Ns mainGlobals mg) {x : Str} {st : Stmt} {ps : List Str} {f : Addr} {oc kV doc pm cdv ct : Value} {od an : Option Addr} {osl : Array (Option Value)}
    (a : PySem.W.nsIn K mainGlobals x = some (some (.ref f))) (l : K.lookup f = some ⟨oc, od, .func (PySem.W.fnOf x x (defArgs st) (defBody st) (defScope st) .none kV doc pm an cdv ct), osl⟩) (c : PySem.W.codeIn K cdv x = true) (k : PySem.W.keepIn K (.ref f) = true)
    (hb : ∀ (kV doc pm : Value) (an : Option Addr) (cdv ct : Value) (us : List Value), us.length = ps.length → bindArgs (PySem.W.fnOf x x (defArgs st) (defBody st) (defScope st) .none kV doc pm an cdv ct) ⟨us, []⟩ = pure (ps.zip us)) : At K mg x st ps :=
  ⟨f, _, fun_mk l c k, PySem.W.mg_of X G a, (fun_mk l c k).binds hb⟩
end EM
end

section
set_option Elab.async false
set_option linter.all false
namespace EM
open Lean.Grind
section
variable {α κ : Type} [CommRing α]
end
end EM
end

section
set_option Elab.async false
set_option linter.all false
namespace EM
def sm : Nat → (Nat → Rat) → Rat
  | 0, _ => 0
  | n + 1, f => sm n f + f n
theorem sm_congr : ∀ {n : Nat} {f g : Nat → Rat}, (∀ i, i < n → f i = g i) → sm n f = sm n g
  | 0, _, _, _ => rfl
  | n + 1, f, g, h => by show sm n f + f n = sm n g + g n; rw [sm_congr (fun i hi => h i (by omega)), h n (by omega)]
theorem sm_add (n : Nat) (f g : Nat → Rat) : sm n (fun i => f i + g i) = sm n f + sm n g := by
  induction n with
  | zero => show (0 : Rat) = 0 + 0; grind
  | succ n ih => show sm n _ + (f n + g n) = (sm n f + f n) + (sm n g + g n); rw [ih]; grind
theorem sm_mul (n : Nat) (k : Rat) (f : Nat → Rat) : sm n (fun i => k * f i) = k * sm n f := by
  induction n with
  | zero => show (0 : Rat) = k * 0; grind
  | succ n ih => show sm n _ + k * f n = k * (sm n f + f n); rw [ih]; grind
theorem sm_zero {n : Nat} {f : Nat → Rat} (h : ∀ i, i < n → f i = 0) : sm n f = 0 := by
  induction n with
  | zero => rfl
  | succ n ih => show sm n f + f n = 0; rw [ih (fun i hi => h i (by omega)), h n (by omega)]; grind
/-- a sum with one term -/
theorem sm_one {n : Nat} {f : Nat → Rat} {j : Nat} (hj : j < n) (h : ∀ i, i < n → i ≠ j → f i = 0) : sm n f = f j := by
  induction n with
  | zero => omega
  | succ n ih =>
    show sm n f + f n = f j
    by_cases e : j = n
    · subst e
      rw [sm_zero (fun i hi => h i (by omega) (by omega))]; grind
    · rw [ih (by omega) (fun i hi ne => h i (by omega) ne), h n (by omega) (fun z => e z.symm)]; grind
def dot (m : Nat) (f x : Nat → Rat) : Rat := sm m fun j => f j * x j
structure Part (n m c : Nat) (G : Nat → Nat → Rat) (cs : List Nat) : Prop where
  kn : cs.length ≤ n
  cm : c ≤ m
  inc : cs.Pairwise (· < ·)
  lt : ∀ x ∈ cs, x < c
  unit : ∀ (l : Nat) (hl : l < cs.length) (i : Nat), i < n → G i cs[l] = if i = l then 1 else 0
  lo : ∀ (i : Nat) (hi : i < cs.length), ∀ j, j < cs[i] → G i j = 0
  rest : ∀ i, cs.length ≤ i → i < n → ∀ j, j < c → G i j = 0
def Ker (n m : Nat) (G : Nat → Nat → Rat) (x : Nat → Rat) : Prop := ∀ i, i < n → dot m (G i) x = 0
theorem Part.start (n m : Nat) (G : Nat → Nat → Rat) : Part n m 0 G [] :=
  ⟨by simp, by omega, .nil, by simp, fun l hl => by simp at hl, fun i hi => by simp at hi, fun _ _ _ j hj => by omega⟩
theorem Part.skip {n m c : Nat} {G : Nat → Nat → Rat} {cs : List Nat} (h : Part n m c G cs) (hc : c < m) (z : ∀ i, cs.length ≤ i → i < n → G i c = 0) : Part n m (c + 1) G cs := by
  refine ⟨h.kn, hc, h.inc, fun x hx => by have := h.lt x hx; omega, h.unit, h.lo, fun i h1 h2 j hj => ?_⟩
  by_cases e : j = c
  · subst e; exact z i h1 h2
  · exact h.rest i h1 h2 j (by omega)
theorem Part.move {n m c : Nat} {G : Nat → Nat → Rat} {cs : List Nat} (h : Part n m c G cs) (σ : Nat → Nat) (s1 : ∀ i, i < cs.length → σ i = i) (s2 : ∀ i, cs.length ≤ i → i < n → cs.length ≤ σ i ∧ σ i < n) : Part n m c (fun i => G (σ i)) cs := by
  refine ⟨h.kn, h.cm, h.inc, h.lt, fun l hl i hi => ?_, fun i hi j hj => ?_, fun i h1 h2 j hj => ?_⟩
  · by_cases hk : i < cs.length
    · show G (σ i) _ = _
      rw [s1 i hk]; exact h.unit l hl i hi
    · have := s2 i (by omega) hi
      show G (σ i) _ = _
      rw [h.unit l hl _ this.2, if_neg (by omega), if_neg (by omega)]
  · show G (σ i) j = 0
    rw [s1 i hi]; exact h.lo i hi j hj
  · exact h.rest _ (s2 i h1 h2).1 (s2 i h1 h2).2 j hj
/-- the row k made to begin with 1 at c and taken from all others -/
def piv (G : Nat → Nat → Rat) (k c : Nat) : Nat → Nat → Rat := fun i j => if i = k then (1 / G k c) * G k j else G i j - G i c * ((1 / G k c) * G k j)
theorem Part.pivot {n m c : Nat} {G : Nat → Nat → Rat} {cs : List Nat} (h : Part n m c G cs) (hc : c < m) (hk : cs.length < n) (hp : G cs.length c ≠ 0) : Part n m (c + 1) (piv G cs.length c) (cs ++ [c]) := by
  have z : ∀ j, j < c → G cs.length j = 0 := h.rest _ (Nat.le_refl _) hk
  have u1 : (1 / G cs.length c) * G cs.length c = 1 := by
    rw [Rat.div_def, Rat.one_mul]; exact Rat.inv_mul_cancel _ hp
  refine ⟨by simp; omega, hc, ?_, ?_, ?_, ?_, ?_⟩
  · rw [List.pairwise_append]
    exact ⟨h.inc, by simp, fun x hx y hy => by rw [List.mem_singleton.mp hy]; exact h.lt x hx⟩
  · intro x hx
    rcases List.mem_append.mp hx with hx | hx
    · have := h.lt x hx; omega
    · rw [List.mem_singleton.mp hx]; omega
  · intro l hl i hi
    by_cases hlk : l < cs.length
    · rw [List.getElem_append_left hlk]
      have hz : G cs.length cs[l] = 0 := z _ (h.lt _ (List.getElem_mem hlk))
      unfold piv
      by_cases e : i = cs.length
      · rw [if_pos e, hz, if_neg (by omega)]; grind
      · rw [if_neg e, hz, h.unit l hlk i hi]; grind
    · have e : l = cs.length := by simp at hl; omega
      subst e
      rw [List.getElem_append_right (Nat.le_refl _)]
      simp only [Nat.sub_self, List.getElem_cons_zero]
      unfold piv
      by_cases e : i = cs.length
      · rw [if_pos e, if_pos e]; exact u1
      · rw [if_neg e, if_neg e, u1]; grind
  · intro i hi j hj
    by_cases hik : i < cs.length
    · rw [List.getElem_append_left hik] at hj
      have : j < c := Nat.lt_trans hj (h.lt _ (List.getElem_mem hik))
      unfold piv
      rw [if_neg (by omega), h.lo i hik j hj, z j this]; grind
    · have e : i = cs.length := by simp at hi; omega
      subst e
      rw [List.getElem_append_right (Nat.le_refl _)] at hj
      simp only [Nat.sub_self, List.getElem_cons_zero] at hj
      unfold piv
      rw [if_pos rfl, z j hj]; grind
  · intro i h1 h2 j hj
    simp at h1
    unfold piv
    rw [if_neg (by omega)]
    by_cases e : j = c
    · subst e; rw [u1]; grind
    · rw [h.rest i (by omega) h2 j (by omega), z j (by omega)]; grind
theorem dot_lin (m : Nat) (f g x : Nat → Rat) (t : Rat) : dot m (fun j => f j - t * g j) x = dot m f x - t * dot m g x := by
  unfold dot
  have e : (fun j => (f j - t * g j) * x j) = (fun j => f j * x j + (-t) * (g j * x j)) := by funext j; grind
  rw [e, sm_add, sm_mul]; grind
theorem dot_smul (m : Nat) (g x : Nat → Rat) (t : Rat) : dot m (fun j => t * g j) x = t * dot m g x := by
  unfold dot
  have e : (fun j => (t * g j) * x j) = (fun j => t * (g j * x j)) := by funext j; grind
  rw [e, sm_mul]
theorem dot_congr {m : Nat} {f g x : Nat → Rat} (h : ∀ j, j < m → f j = g j) : dot m f x = dot m g x := sm_congr fun j hj => by rw [h j hj]
theorem Ker.move {n m : Nat} {G : Nat → Nat → Rat} {x : Nat → Rat} (σ : Nat → Nat) (s1 : ∀ i, i < n → σ i < n) (s2 : ∀ i, i < n → ∃ i', i' < n ∧ σ i' = i) : Ker n m (fun i => G (σ i)) x ↔ Ker n m G x := by
  constructor
  · intro h i hi
    obtain ⟨i', h1, rfl⟩ := s2 i hi
    exact h i' h1
  · intro h i hi; exact h _ (s1 i hi)
theorem Ker.pivot {n m : Nat} {G : Nat → Nat → Rat} {x : Nat → Rat} {k c : Nat} (hk : k < n) (hp : G k c ≠ 0) : Ker n m (piv G k c) x ↔ Ker n m G x := by
  have e1 : dot m (piv G k c k) x = (1 / G k c) * dot m (G k) x := by
    rw [← dot_smul]; exact dot_congr fun j _ => by unfold piv; rw [if_pos rfl]
  have e2 : ∀ i, i ≠ k → dot m (piv G k c i) x = dot m (G i) x - G i c * dot m (piv G k c k) x := fun i hi => by
    rw [← dot_lin]; exact dot_congr fun j _ => by unfold piv; rw [if_neg hi, if_pos rfl]
  have h0 : (1 / G k c) ≠ 0 := by
    rw [Rat.div_def, Rat.one_mul]; intro z
    have := Rat.inv_mul_cancel _ hp
    rw [z] at this; grind
  constructor
  · intro h i hi
    have hk0 := h k hk
    by_cases e : i = k
    · subst e
      rw [e1] at hk0
      rcases Rat.mul_eq_zero.mp hk0 with z | z
      · exact absurd z h0
      · exact z
    · have := h i hi
      rw [e2 i e, hk0] at this; grind
  · intro h i hi
    have hk0 : dot m (piv G k c k) x = 0 := by rw [e1, h k hk]; grind
    by_cases e : i = k
    · subst e; exact hk0
    · rw [e2 i e, hk0, h i hi]; grind
def hit (cs : List Nat) (G : Nat → Nat → Rat) (j : Nat) : Nat → Rat := fun l => if l = j then 1 else match cs.idxOf? l with
  | some i => - G i j
  | none => 0
theorem idxOf?_get {cs : List Nat} (hn : cs.Pairwise (· < ·)) {l : Nat} (hl : l < cs.length) : cs.idxOf? cs[l] = some l := by
  rw [List.idxOf?, List.findIdx?_eq_some_iff_getElem]
  refine ⟨hl, by simp, fun j hj => ?_⟩
  have := List.pairwise_iff_getElem.mp hn j l (by omega) hl hj
  simp; omega
theorem idxOf?_none {cs : List Nat} {l : Nat} (h : l ∉ cs) : cs.idxOf? l = none := List.idxOf?_eq_none_iff.mpr h
/-- what a row gives with such a vector: over the beginnings alone -/
theorem dot_hit {n m : Nat} {G G' : Nat → Nat → Rat} {cs : List Nat} (h : Part n m m G cs) (h' : Part n m m G' cs) {j : Nat} (hj : j < m) (hc : j ∉ cs) {i : Nat} (hi : i < n) : dot m (G' i) (hit cs G j) = G' i j - (if i < cs.length then G i j else 0) := by
  have hit_j : hit cs G j j = 1 := by unfold hit; rw [if_pos rfl]
  by_cases hk : i < cs.length
  · rw [if_pos hk]
    have hm : cs[i] < m := h.lt _ (List.getElem_mem hk)
    have hne : cs[i] ≠ j := fun z => hc (by rw [← z]; exact List.getElem_mem hk)
    have e : dot m (G' i) (hit cs G j) = sm m (fun l => (if l = j then G' i j else 0) + (if l = cs[i] then - G i j else 0)) := by
      apply sm_congr
      intro l hl
      by_cases e : l = j
      · subst e; rw [hit_j, if_pos rfl, if_neg (fun z => hne z.symm)]; grind
      · rw [if_neg e]
        by_cases e2 : l = cs[i]
        · subst e2
          rw [if_pos rfl, h'.unit i hk i hi, if_pos rfl]
          unfold hit
          rw [if_neg e, idxOf?_get h.inc hk]; grind
        · rw [if_neg e2]
          by_cases hl : l ∈ cs
          · obtain ⟨t, ht, rfl⟩ := List.getElem_of_mem hl
            rw [h'.unit t ht i hi, if_neg (fun z => e2 (by subst z; rfl))]; grind
          · unfold hit; rw [if_neg e, idxOf?_none hl]; grind
    rw [e, sm_add, sm_one hj (fun l _ ne => if_neg ne), sm_one hm (fun l _ ne => if_neg ne), if_pos rfl, if_pos rfl]; grind
  · rw [if_neg hk]
    have z := h'.rest i (by omega) hi
    unfold dot
    rw [sm_zero (fun l hl => by rw [z l hl]; grind), z j hj]; grind
theorem hit_ker {n m : Nat} {G : Nat → Nat → Rat} {cs : List Nat} (h : Part n m m G cs) {j : Nat} (hj : j < m) (hc : j ∉ cs) : Ker n m G (hit cs G j) := by
  intro i hi
  rw [dot_hit h h hj hc hi]
  by_cases hk : i < cs.length
  · rw [if_pos hk]; grind
  · rw [if_neg hk, h.rest i (by omega) hi j hj]; grind
end EM
end

section
set_option Elab.async false
set_option linter.all false
namespace EM
end EM
end

section
set_option Elab.async false
set_option linter.all false
namespace EM
open ShMat
theorem getD_at {α : Type} (l : List α) (d : α) {i : Nat} (h : i < l.length) : l.getD i d = l[i] := by
  rw [List.getD_eq_getElem?_getD, List.getElem?_eq_getElem h]; rfl
end EM
end

section
set_option Elab.async false
set_option linter.all false
namespace EM
open ShMat
theorem at_get {a : Mat} {i j : Nat} (h : i < a.length) : at_ a i j = (a[i]).getD j 0 := by
  unfold at_; rw [getD_at _ _ h]
end EM
end

section
set_option Elab.async false
set_option linter.all false
namespace EM
open ShMat
end EM
end

section
set_option Elab.async false
set_option linter.all false
namespace EM
structure PS where
  c : Nat → Rat
@[ext] theorem PS.ext' {f g : PS} (h : ∀ n, f.c n = g.c n) : f = g := by
  cases f; cases g; congr; funext n; exact h n
theorem sm_swap (n : Nat) (F : Nat → Nat → Rat) : sm (n + 1) (fun i => sm (i + 1) (fun j => F i j)) = sm (n + 1) (fun j => sm (n - j + 1) (fun l => F (j + l) j)) := by
  induction n with
  | zero => rfl
  | succ n ih =>
    show sm (n + 1) _ + sm (n + 1 + 1) (fun j => F (n + 1) j) = sm (n + 1) _ + sm (n + 1 - (n + 1) + 1) _
    rw [ih]
    have e : sm (n + 1) (fun j => sm (n + 1 - j + 1) (fun l => F (j + l) j)) = sm (n + 1) (fun j => sm (n - j + 1) (fun l => F (j + l) j) + F (n + 1) j) := by
      apply sm_congr
      intro j hj
      rw [show n + 1 - j + 1 = (n - j + 1) + 1 by omega]
      show sm (n - j + 1) _ + F (j + (n - j + 1)) j = _
      rw [show j + (n - j + 1) = n + 1 by omega]
    rw [e, sm_add]
    show _ + (sm (n + 1) (fun j => F (n + 1) j) + F (n + 1) (n + 1)) = _
    rw [show n + 1 - (n + 1) + 1 = 1 by omega]
    show _ = _ + (0 + F (n + 1 + 0) (n + 1))
    grind
theorem sm_rev (n : Nat) (F : Nat → Rat) : sm (n + 1) F = sm (n + 1) (fun i => F (n - i)) := by
  induction n generalizing F with
  | zero => rfl
  | succ n ih =>
    have h : ∀ (m : Nat) (G : Nat → Rat), sm (m + 1) G = G 0 + sm m (fun i => G (i + 1)) := fun m G => by
      induction m with
      | zero => show (0 : Rat) + G 0 = G 0 + 0; grind
      | succ m ih => show sm (m + 1) G + G (m + 1) = G 0 + (sm m _ + G (m + 1)); rw [ih]; grind
    show sm (n + 1) F + F (n + 1) = _
    rw [h (n + 1) (fun i => F (n + 1 - i)), ih]
    show _ = F (n + 1 - 0) + _
    have e : sm (n + 1) (fun i => F (n + 1 - (i + 1))) = sm (n + 1) (fun i => F (n - i)) := sm_congr fun i _ => by rw [show n + 1 - (i + 1) = n - i by omega]
    rw [e, Nat.sub_zero]; grind
namespace PS
def cst (q : Rat) : PS := ⟨fun n => if n = 0 then q else 0⟩
instance : Add PS := ⟨fun f g => ⟨fun n => f.c n + g.c n⟩⟩
instance : Neg PS := ⟨fun f => ⟨fun n => - f.c n⟩⟩
instance : Sub PS := ⟨fun f g => ⟨fun n => f.c n - g.c n⟩⟩
instance : Mul PS := ⟨fun f g => ⟨fun n => sm (n + 1) fun i => f.c i * g.c (n - i)⟩⟩
instance : NatCast PS := ⟨fun n => cst (n : Rat)⟩
instance (n : Nat) : OfNat PS n := ⟨cst (n : Rat)⟩
instance : IntCast PS := ⟨fun n => cst (n : Rat)⟩
def npow (f : PS) : Nat → PS
  | 0 => 1
  | n + 1 => npow f n * f
instance : HPow PS Nat PS := ⟨npow⟩
instance : SMul Nat PS := ⟨fun n f => ((n : PS)) * f⟩
instance : SMul Int PS := ⟨fun n f => ((n : PS)) * f⟩
theorem add_c (f g : PS) (n : Nat) : (f + g).c n = f.c n + g.c n := rfl
theorem neg_c (f : PS) (n : Nat) : (-f).c n = - f.c n := rfl
theorem sub_c (f g : PS) (n : Nat) : (f - g).c n = f.c n - g.c n := rfl
theorem mul_c (f g : PS) (n : Nat) : (f * g).c n = sm (n + 1) fun i => f.c i * g.c (n - i) := rfl
theorem cst_mul (q : Rat) (f : PS) (n : Nat) : (cst q * f).c n = q * f.c n := by
  rw [mul_c, sm_one (j := 0) (by omega) (fun i _ ne => by show (if i = 0 then q else 0) * _ = 0; rw [if_neg ne]; grind)]
  rfl
theorem zero_c (n : Nat) : (0 : PS).c n = 0 := by
  show (if n = 0 then ((0 : Nat) : Rat) else 0) = 0
  split <;> rfl
theorem one_c (n : Nat) : (1 : PS).c n = if n = 0 then 1 else 0 := rfl
theorem mcomm (f g : PS) : f * g = g * f := by
  ext n
  rw [mul_c, mul_c, sm_rev]
  apply sm_congr
  intro i hi
  rw [show n - (n - i) = i by omega, Rat.mul_comm]
theorem massoc (f g h : PS) : f * g * h = f * (g * h) := by
  ext n
  rw [mul_c, mul_c]
  have e1 : sm (n + 1) (fun i => (f * g).c i * h.c (n - i)) = sm (n + 1) (fun i => sm (i + 1) (fun j => f.c j * g.c (i - j) * h.c (n - i))) := sm_congr fun i _ => by
    rw [mul_c, Rat.mul_comm, ← sm_mul]
    exact sm_congr fun j _ => by grind
  rw [e1, sm_swap]
  apply sm_congr
  intro j hj
  rw [mul_c, ← sm_mul]
  apply sm_congr
  intro l hl
  rw [show j + l - j = l by omega, show n - (j + l) = n - j - l by omega]; grind
theorem ldist (f g h : PS) : f * (g + h) = f * g + f * h := by
  ext n
  rw [add_c, mul_c, mul_c, mul_c, ← sm_add]
  exact sm_congr fun i _ => by rw [add_c]; grind
theorem cst_add (p q : Rat) : cst (p + q) = cst p + cst q := by
  ext n
  show (if n = 0 then p + q else 0) = (if n = 0 then p else 0) + (if n = 0 then q else 0)
  split <;> grind
theorem cst_neg (p : Rat) : cst (-p) = - cst p := by
  ext n
  show (if n = 0 then -p else 0) = -(if n = 0 then p else 0)
  split <;> grind
theorem omul (f : PS) : 1 * f = f := by
  ext n
  show (cst ((1 : Nat) : Rat) * f).c n = _
  rw [cst_mul]; show (1 : Rat) * _ = _; grind
theorem zmul (f : PS) : 0 * f = 0 := by
  ext n
  show (cst ((0 : Nat) : Rat) * f).c n = _
  rw [cst_mul, zero_c]; show (0 : Rat) * _ = _; grind
instance : Lean.Grind.CommRing PS where
  add_zero f := by ext n; rw [add_c, zero_c]; grind
  add_comm f g := by ext n; rw [add_c, add_c]; grind
  add_assoc f g h := by ext n; simp only [add_c]; grind
  mul_assoc := massoc
  mul_one f := by rw [mcomm, omul]
  one_mul := omul
  left_distrib := ldist
  right_distrib f g h := by rw [mcomm, ldist, mcomm h f, mcomm h g]
  zero_mul := zmul
  mul_zero f := by rw [mcomm, zmul]
  pow_zero f := rfl
  pow_succ f n := rfl
  ofNat_succ n := by
    show cst ((n + 1 : Nat) : Rat) = cst (n : Rat) + cst ((1 : Nat) : Rat)
    rw [← cst_add, Rat.natCast_add]
  ofNat_eq_natCast n := rfl
  nsmul_eq_natCast_mul n f := rfl
  neg_add_cancel f := by ext n; rw [add_c, neg_c, zero_c]; grind
  sub_eq_add_neg f g := by ext n; rw [sub_c, add_c, neg_c]; grind
  neg_zsmul i f := by
    show cst ((-i : Int) : Rat) * f = -(cst (i : Rat) * f)
    ext n
    rw [cst_mul, neg_c, cst_mul, Rat.intCast_neg]; grind
  zsmul_natCast_eq_nsmul n f := by
    show cst (((n : Nat) : Int) : Rat) * f = cst ((n : Nat) : Rat) * f
    rw [Rat.intCast_natCast]
  intCast_ofNat n := by
    show cst (((n : Nat) : Int) : Rat) = cst ((n : Nat) : Rat)
    rw [Rat.intCast_natCast]
  intCast_neg i := by
    show cst ((-i : Int) : Rat) = - cst (i : Rat)
    rw [Rat.intCast_neg, cst_neg]
  mul_comm := mcomm
end PS
example (f g h : PS) : (f + g) * (f - g) + h = h - g * g + f * f := by grind
def dv (f : PS) : PS := ⟨fun n => ((n + 1 : Nat) : Rat) * f.c (n + 1)⟩
theorem sm_first (m : Nat) (G : Nat → Rat) : sm (m + 1) G = G 0 + sm m (fun i => G (i + 1)) := by
  induction m with
  | zero => show (0 : Rat) + G 0 = G 0 + 0; grind
  | succ m ih => show sm (m + 1) G + G (m + 1) = G 0 + (sm m _ + G (m + 1)); rw [ih]; grind
theorem dv_mul (f g : PS) : dv (f * g) = dv f * g + f * dv g := by
  ext n
  show ((n + 1 : Nat) : Rat) * sm (n + 1 + 1) (fun i => f.c i * g.c (n + 1 - i)) = sm (n + 1) (fun i => (((i + 1 : Nat) : Rat) * f.c (i + 1)) * g.c (n - i)) + sm (n + 1) (fun i => f.c i * (((n - i + 1 : Nat) : Rat) * g.c (n - i + 1)))
  rw [← sm_mul]
  have e : sm (n + 1 + 1) (fun i => ((n + 1 : Nat) : Rat) * (f.c i * g.c (n + 1 - i))) = sm (n + 1 + 1) (fun i => ((i : Nat) : Rat) * (f.c i * g.c (n + 1 - i)) + ((n + 1 - i : Nat) : Rat) * (f.c i * g.c (n + 1 - i))) := sm_congr fun i hi => by
    have : ((n + 1 : Nat) : Rat) = ((i : Nat) : Rat) + ((n + 1 - i : Nat) : Rat) := by rw [← Rat.natCast_add]; congr 1; omega
    rw [this]; grind
  rw [e, sm_add]
  congr 1
  · rw [sm_first]
    have : ((0 : Nat) : Rat) = 0 := rfl
    rw [this, Rat.zero_mul, Rat.zero_add]
    apply sm_congr
    intro i hi
    rw [show n + 1 - (i + 1) = n - i by omega]; grind
  · show sm (n + 1) _ + ((n + 1 - (n + 1) : Nat) : Rat) * _ = _
    rw [Nat.sub_self]
    have : ((0 : Nat) : Rat) = 0 := rfl
    rw [this, Rat.zero_mul, Rat.add_zero]
    apply sm_congr
    intro i hi
    rw [show n + 1 - i = n - i + 1 by omega]; grind
def psm (n : Nat) (F : Nat → PS) : PS := match n with
  | 0 => 0
  | n + 1 => psm n F + F n
theorem psm_congr {n : Nat} {F G : Nat → PS} (h : ∀ i, i < n → F i = G i) : psm n F = psm n G := by
  induction n with
  | zero => rfl
  | succ n ih => show psm n F + F n = psm n G + G n; rw [ih (fun i hi => h i (by omega)), h n (by omega)]
theorem psm_first (n : Nat) (F : Nat → PS) : psm (n + 1) F = F 0 + psm n (fun i => F (i + 1)) := by
  induction n with
  | zero => show (0 : PS) + F 0 = F 0 + 0; grind
  | succ n ih => show psm (n + 1) F + F (n + 1) = F 0 + (psm n _ + F (n + 1)); rw [ih]; grind
theorem psm_mul (n : Nat) (k : PS) (F : Nat → PS) : psm n (fun i => k * F i) = k * psm n F := by
  induction n with
  | zero => show (0 : PS) = k * 0; grind
  | succ n ih => show psm n _ + k * F n = k * (psm n F + F n); rw [ih]; grind
theorem psm_c (n : Nat) (F : Nat → PS) (k : Nat) : (psm n F).c k = sm n (fun i => (F i).c k) := by
  induction n with
  | zero => exact PS.zero_c k
  | succ n ih => show (psm n F + F n).c k = sm n _ + _; rw [PS.add_c, ih]
end EM
end

section
set_option Elab.async false
set_option linter.all false
namespace EM
section
variable {α : Type} [Lean.Grind.CommRing α]
end
section
variable (n : Nat) (A : Nat → Nat → Rat)
end
end EM
end

section
set_option Elab.async false
set_option linter.all false
namespace EM
open ShMat
theorem lcm_eq (m n : Nat) (hm : 0 < m) : (m : Int).fdiv (Int.gcd m n) * (n : Int) = (Nat.lcm m n : Nat) := by
  have hg : Int.gcd (m : Int) (n : Int) = Nat.gcd m n := rfl
  have g0 : 0 < Nat.gcd m n := Nat.gcd_pos_of_pos_left n hm
  obtain ⟨t, ht⟩ := Nat.gcd_dvd_left m n
  rw [hg, Int.fdiv_eq_ediv_of_nonneg _ (by omega), ← Int.natCast_ediv, ← Int.natCast_mul]
  congr 1
  have e : m / Nat.gcd m n = t := by
    conv => lhs; lhs; rw [ht]
    exact Nat.mul_div_cancel_left t g0
  have e2 : Nat.lcm m n = t * n := by
    unfold Nat.lcm
    conv => lhs; lhs; lhs; rw [ht]
    rw [Nat.mul_assoc]
    exact Nat.mul_div_cancel_left _ g0
  rw [e, e2]
def scT (f : Nat → Rat) : Nat → Nat
  | 0 => 1
  | n + 1 => Nat.lcm (scT f n) (f n).den
theorem scT_pos (f : Nat → Rat) : ∀ n, 0 < scT f n
  | 0 => by show 0 < 1; decide
  | n + 1 => Nat.lcm_pos (scT_pos f n) (Nat.pos_of_ne_zero (f n).den_nz)
theorem scT_dvd (f : Nat → Rat) : ∀ n i, i < n → (f i).den ∣ scT f n
  | 0, i, h => by omega
  | n + 1, i, h => by
    by_cases e : i = n
    · subst e; exact Nat.dvd_lcm_right _ _
    · exact Nat.dvd_trans (scT_dvd f n i (by omega)) (Nat.dvd_lcm_left _ _)
theorem scT_bd (f : Nat → Rat) (k : Nat) : ∀ n, (∀ i, i < n → (f i).den < 2 ^ k) → scT f n < 2 ^ (k * n + 1)
  | 0, _ => by show 1 < 2 ^ (k * 0 + 1); simp
  | n + 1, h => by
    have h1 := scT_bd f k n (fun i hi => h i (by omega))
    have h2 := h n (by omega)
    have h3 : Nat.lcm (scT f n) (f n).den ≤ scT f n * (f n).den := Nat.le_of_dvd (Nat.mul_pos (scT_pos f n) (Nat.pos_of_ne_zero (f n).den_nz)) (Nat.lcm_dvd_mul _ _)
    refine Nat.lt_of_le_of_lt h3 ?_
    have := Nat.mul_lt_mul'' h1 h2
    rw [← Nat.pow_add, show k * n + 1 + k = k * (n + 1) + 1 by rw [Nat.mul_succ]; omega] at this
    exact this
def whZ (f : Nat → Rat) (s : Nat) (j : Nat) : Int := (f j).num * ((s : Int).fdiv ((f j).den : Int))
theorem whZ_eq (f : Nat → Rat) (s j : Nat) (h : (f j).den ∣ s) : ((whZ f s j : Int) : Rat) = (s : Rat) * f j := by
  obtain ⟨t, rfl⟩ := h
  have d0 : ((f j).den : Int) ≠ 0 := by have := (f j).den_nz; omega
  have e : (((f j).den * t : Nat) : Int).fdiv ((f j).den : Int) = (t : Int) := by
    rw [Int.natCast_mul, Int.mul_fdiv_cancel_left _ d0]
  unfold whZ
  rw [e]
  have d0' : (((f j).den : Int) : Rat) ≠ 0 := cast_ne d0
  have hn : ((f j).num : Rat) = (((f j).den : Int) : Rat) * f j := by
    have q := rat_eq (f j)
    generalize (((f j).den : Int) : Rat) = d at q d0' ⊢
    generalize ((f j).num : Rat) = p at q ⊢
    rw [q]; grind
  rw [Rat.intCast_mul, Rat.natCast_mul, hn]
  have e3 : (((f j).den : Nat) : Rat) = (((f j).den : Int) : Rat) := rfl
  have e4 : ((t : Nat) : Rat) = ((t : Int) : Rat) := rfl
  rw [e3, e4]
  generalize (((f j).den : Int) : Rat) = d
  grind
theorem fdiv_le (s : Nat) (d : Nat) : ((s : Int).fdiv (d : Int)).natAbs ≤ s := by
  rw [Int.fdiv_eq_ediv_of_nonneg _ (by omega), ← Int.natCast_ediv, Int.natAbs_natCast]
  exact Nat.div_le_self _ _
theorem whZ_bd {f : Nat → Rat} {s k l j : Nat} (h : Bd k (f j)) (hs : s < 2 ^ l) : (whZ f s j).natAbs < 2 ^ (k + l) := by
  unfold whZ
  exact natAbs_mul_lt h.1 (Nat.lt_of_le_of_lt (fdiv_le s _) hs)
end EM
namespace EM
end EM
namespace EM
open ShMat
end EM
end

section
set_option Elab.async false
set_option linter.all false
namespace EM
open ShMat
section
variable (n : Nat) (a : Nat → Nat → Rat)
end
section
variable {n : Nat} {a : Nat → Nat → Rat}
end
section
variable {n : Nat} {a : Nat → Nat → Rat}
end
end EM
namespace EM
end EM
end

section
set_option Elab.async false
set_option linter.all false
set_option Elab.async false
set_option maxRecDepth 100000
set_option maxHeartbeats 1000000
namespace EM
open PySem PySem.Spec PyProof.Rows L2
def rIns (C : Addr) (ps : List (Str × Rp)) : Rp := ⟨fun G v => ∃ a dx fs, v = .ref a ∧ G a = some (.ins C dx fs) ∧ ∀ q ∈ ps, ∃ u, fs.lookup q.1 = some u ∧ q.2.P G u,
  fun s ⟨a, dx, fs, e, h, r⟩ => ⟨a, dx, fs, e, s _ _ h, fun q hq => let ⟨u, h1, h2⟩ := r q hq; ⟨u, h1, q.2.mono s h2⟩⟩⟩
section
variable {ρ : List Slot} {K : PySem.W.Frag}
theorem den_fld {ta : TE} {C : Addr} {ps : List (Str × Rp)} {f : Str} {p : Rp} (ha : Den ta ρ (rIns C ps)) (hc : Cls K C) (hn : NoAttr K C f) (hp : (f, p) ∈ ps) : Den (tFld K ta f) ρ p := fun G0 H0 G H σ F Q k =>
  ha G0 H0 G H σ F _ fun x G1 H1 e1 ⟨a, dx, fs, ex, hx, r⟩ => by
    obtain ⟨u, h1, h2⟩ := r _ hp
    exact ⟨a, C, dx, fs, u, ex, e1.s _ _ hx, hc, hn, h1, k u G1 H1 e1 h2⟩
theorem upd_upd {H : Hp} {a : Addr} {o o' : HO} : upd (upd H a o) a o' = upd H a o' := by
  funext b
  by_cases z : b = a
  · rw [z, upd_same, upd_same]
  · rw [upd_ne z, upd_ne z, upd_ne z]
theorem denf_from {te tl : TE} {ps : List Rp} {n : Nat} (h : Den te ρ (rLst ps)) (hn : Den tl ρ (rI' (n : Int))) (hl : n ≤ ps.length) : DenF (tSl (rSlL K) te (tPart tl) tNoPart) ρ (ps.drop n) := fun G0 H0 G H σ F Q k =>
  h G0 H0 G H σ F _ fun x G1 H1 e1 ⟨a, vs, ex, hx, r⟩ => hn G0 H0 G1 H1 σ (F.ext e1) _ fun y G2 H2 e2 ey => by
    have hl' : n ≤ vs.length := by rw [← r.length]; exact hl
    refine ⟨(n : Int), ey, a, vs, ex, SqL.of (e2.s _ _ (e2.g _ _ hx)), fun p hp => ?_⟩
    have e : cutV vs (some (n : Int)) none = vs.drop n := by
      unfold cutV
      rw [HT.sIx_nat, HT.sIx_none, Nat.min_eq_left hl']
      exact List.take_of_length_le (by rw [List.length_drop]; omega)
    rw [e]
    exact k p _ G2 H2 (e1.trans e2) hp ((r.mono e2.g).drop n)
theorem eqv_ints : ∀ (xs ys : List Int), PyData.eqvAll (xs.map PyData.int) (ys.map PyData.int) = decide (xs = ys)
  | [], [] => by simp [PyData.eqvAll]
  | [], _ :: _ => by simp [PyData.eqvAll]
  | _ :: _, [] => by simp [PyData.eqvAll]
  | x :: xs, y :: ys => by
    show (PyData.eqv (.int x) (.int y) && PyData.eqvAll (xs.map PyData.int) (ys.map PyData.int)) = _
    rw [eqv_ints xs ys]
    show ((x == y) && decide (xs = ys)) = decide (x :: xs = y :: ys)
    rw [Bool.eq_iff_iff]; simp
end
section
variable {X : Cx} {K : PySem.W.Frag}
theorem pe_fldK {e : Expr} {ta : TE} {f : Str} {pos : Pos} (h : X.K = K) (he : PE X e ta) (hb : attributeBase e f X.env (eval e X.env) = eval e X.env) : PE X (.Attribute e f pos) (tFld K ta f) := h ▸ pe_fld he hb
theorem sl_listK (h : X.K = K) : SlR X (rSlL K) := h ▸ sl_list
end
section
variable {ρ : List Slot} {K : PySem.W.Frag}
/-- data all the way down -/
def HasD (p : Rp) (d : PyData) : Prop := ∀ (K : PySem.W.Frag) (G H : Hp) (v : V), Same G H → p.P G v → Dp K H v d
theorem hasD_int (n : Int) : HasD (rI' n) (.int n) := fun K G H v _ e => by
  have e : v = V.int n := e
  subst e; exact .int n
theorem hasD_all {α : Type} {f : α → Rp} {g : α → PyData} (h : ∀ x, HasD (f x) (g x)) : ∀ (xs : List α) (K : PySem.W.Frag) (G H : Hp) (vs : List V), Same G H → Reps G (xs.map f) vs → DpAll K H vs (xs.map g)
  | [], _, _, _, _, _, .nil => .nil
  | x :: xs, K, G, H, _, s, .cons h1 t => .cons (h x K G H _ s h1) (hasD_all h xs K G H _ s t)
theorem hasD_lst {α : Type} {f : α → Rp} {g : α → PyData} (h : ∀ x, HasD (f x) (g x)) (xs : List α) : HasD (rLst (xs.map f)) (.list (xs.map g)) := fun K G H v s ⟨a, vs, e, hx, r⟩ => by
  rw [e]; exact .lst (SqL.of (s _ _ hx)) (hasD_all h xs K G H vs s r)
theorem den_eqD {ta tb : TE} {p q : Rp} {d e : PyData} (ha : Den ta ρ p) (hb : Den tb ρ q) (hp : HasD p d) (hq : HasD q e) (sd : SeqAt.shaped d = true) (se : SeqAt.shaped e = true) : Den (tOp (rEqD K) ta tb) ρ (rB (PyData.eqv d e)) :=
  den_bin ha hb fun x y G H Q s px py k => ⟨d, e, hp K G H x s px, hq K G H y s py, sd, se, k _ G H (Ext.refl s) rfl⟩
theorem den_neD {ta tb : TE} {p q : Rp} {d e : PyData} (ha : Den ta ρ p) (hb : Den tb ρ q) (hp : HasD p d) (hq : HasD q e) (sd : SeqAt.shaped d = true) (se : SeqAt.shaped e = true) : Den (tOp (rNeD K) ta tb) ρ (rB (!PyData.eqv d e)) :=
  den_bin ha hb fun x y G H Q s px py k => ⟨d, e, hp K G H x s px, hq K G H y s py, sd, se, k _ G H (Ext.refl s) rfl⟩
def Shp (k : Nat) (d : PyData) : Prop := d.canLay0 = true ∧ d.depth ≤ k
theorem shp_all {k : Nat} : ∀ (ds : List PyData), (∀ d ∈ ds, Shp k d) → PyData.canLayAll0 ds = true ∧ PyData.depthAll ds ≤ k
  | [], _ => ⟨rfl, Nat.zero_le _⟩
  | d :: ds, h => by
    obtain ⟨h1, h2⟩ := h d (by simp)
    obtain ⟨h3, h4⟩ := shp_all ds fun e he => h e (by simp [he])
    exact ⟨by show (d.canLay0 && PyData.canLayAll0 ds) = true; rw [h1, h3]; rfl, by show max d.depth (PyData.depthAll ds) ≤ k; omega⟩
theorem shp_int {n : Int} : Shp 1 (.int n) := ⟨rfl, by show PyData.depth (.int n) ≤ 1; simp [PyData.depth]⟩
theorem shp_list {k : Nat} {ds : List PyData} (h : ∀ d ∈ ds, Shp k d) : Shp (k + 1) (.list ds) := by
  obtain ⟨h1, h2⟩ := shp_all ds h
  exact ⟨h1, by show PyData.depth (.list ds) ≤ k + 1; simp only [PyData.depth]; omega⟩
theorem shp_ok {k : Nat} {d : PyData} (h : Shp k d) (hk : k ≤ 64) : SeqAt.shaped d = true := by
  unfold SeqAt.shaped
  rw [h.1, decide_eq_true (Nat.le_trans h.2 hk)]; rfl
theorem shp_map {α : Type} {k : Nat} {g : α → PyData} (h : ∀ x, Shp k (g x)) (xs : List α) : Shp (k + 1) (.list (xs.map g)) := shp_list fun d hd => by
  obtain ⟨x, _, rfl⟩ := List.mem_map.mp hd
  exact h x
theorem shaped_ints (ns : List Int) : SeqAt.shaped (.list (ns.map PyData.int)) = true := shp_ok (shp_map (fun _ => shp_int) ns) (by decide)
end
section
variable {X : Cx}
end
end EM
namespace EM
open PySem PySem.Spec PyProof.Rows L2
theorem rRowZ_make (m : Nat) (f : Nat → Int) : rRowZ ((List.range m).map f) = rLst ((List.range m).map fun j => rI' (f j)) := by
  unfold rRowZ; rw [List.map_map]; rfl
theorem intIx {xs : List Int} {i : Nat} (hi : i < xs.length) : (xs.map rI')[i]? = some (rI' (xs.getD i 0)) := by
  rw [List.getElem?_map, List.getElem?_eq_getElem hi, List.getD_eq_getElem?_getD, List.getElem?_eq_getElem hi]; rfl
end EM
namespace EM
open PySem PySem.Spec PyProof.Rows L2
end EM
namespace EM
open PySem
/-- a size that nothing here goes beyond, hidden from arithmetic -/
def Lim (x : Nat) : Prop := x < 2 ^ 40000000
theorem Lim.mk {x k : Nat} (h : x < 2 ^ k) (hk : k ≤ 40000000) : Lim x := Nat.lt_of_lt_of_le h (Nat.pow_le_pow_right (by decide) hk)
theorem Lim.le {x y : Nat} (h : Lim y) (hx : x ≤ y) : Lim x := Nat.lt_of_le_of_lt hx h
theorem mulL {a b : Int} (ha : Lim a.natAbs) (hb : Lim b.natAbs) : IntMulOk a b := mulOk (m := 40000000) (n := 40000000) ha hb (by decide)
theorem Lim.nat {x : Nat} (h : Lim x) : Lim ((x : Int)).natAbs := by rw [Int.natAbs_natCast]; exact h
end EM
end

section
set_option Elab.async false
set_option linter.all false
set_option Elab.async false
set_option maxRecDepth 100000
set_option maxHeartbeats 1000000
namespace EM
open PySem PySem.Spec PyProof.Rows L2
section
variable {ρ : List Slot} {K : PySem.W.Frag}
/-- __init__ of two, of three values -/
def spInit2 (C : Addr) (f1 f2 : Str) : Sp := fun vs H Q _ => ∃ (p dx : Addr) (v1 v2 : V), vs = [.ref p, v1, v2] ∧ H p = some (.ins C dx []) ∧ Q .non (upd H p (.ins C dx (putF f2 v2 (putF f1 v1 []))))
def spInit3 (C : Addr) (f1 f2 f3 : Str) : Sp := fun vs H Q _ => ∃ (p dx : Addr) (v1 v2 v3 : V), vs = [.ref p, v1, v2, v3] ∧ H p = some (.ins C dx []) ∧ Q .non (upd H p (.ins C dx (putF f3 v3 (putF f2 v2 (putF f1 v1 [])))))
theorem den_make2 {t : TA} {E : XK} {C : Addr} {f1 f2 : Str} {p1 p2 : Rp} (h : DenA t ρ [p1, p2]) (n12 : f1 ≠ f2) :
    Den (tMake C (spInit2 C f1 f2) [] E t) ρ (rIns C [(f1, p1), (f2, p2)]) := fun G0 H0 G H σ F Q k =>
  h G0 H0 G H σ F _ fun vs G1 H1 e1 r x dx hx hdx hne => by
    cases r with
    | cons h1 r => cases r with
      | cons h2 r =>
        cases r
        rename_i v1 v2
        have e2 : Ext G1 H1 (upd G1 dx (.own x)) (upd H1 dx (.own x)) := Ext.new e1.s hdx
        have hx' : upd H1 dx (.own x) x = none := by rw [upd_ne (fun z => hne z.symm)]; exact hx
        have e3 := Ext.new (o := .ins C dx (putF f2 v2 (putF f1 v1 []))) e2.s hx'
        have e13 := e2.trans e3
        refine ⟨x, dx, v1, v2, rfl, upd_same, rfl, ?_⟩
        rw [upd_upd]
        refine k _ _ _ (e1.trans e13) ⟨x, dx, _, rfl, upd_same, fun q hq => ?_⟩
        simp only [List.mem_cons, List.not_mem_nil, or_false] at hq
        rcases hq with rfl | rfl
        · exact ⟨v1, by rw [lookup_putF, if_neg n12, lookup_putF, if_pos rfl], p1.mono e13.g h1⟩
        · exact ⟨v2, by rw [lookup_putF, if_pos rfl], p2.mono e13.g h2⟩
theorem den_make3 {t : TA} {E : XK} {C : Addr} {f1 f2 f3 : Str} {p1 p2 p3 : Rp} (h : DenA t ρ [p1, p2, p3]) (n12 : f1 ≠ f2) (n13 : f1 ≠ f3) (n23 : f2 ≠ f3) :
    Den (tMake C (spInit3 C f1 f2 f3) [] E t) ρ (rIns C [(f1, p1), (f2, p2), (f3, p3)]) := fun G0 H0 G H σ F Q k =>
  h G0 H0 G H σ F _ fun vs G1 H1 e1 r x dx hx hdx hne => by
    cases r with
    | cons h1 r => cases r with
      | cons h2 r => cases r with
        | cons h3 r =>
          cases r
          rename_i v1 v2 v3
          have e2 : Ext G1 H1 (upd G1 dx (.own x)) (upd H1 dx (.own x)) := Ext.new e1.s hdx
          have hx' : upd H1 dx (.own x) x = none := by rw [upd_ne (fun z => hne z.symm)]; exact hx
          have e3 := Ext.new (o := .ins C dx (putF f3 v3 (putF f2 v2 (putF f1 v1 [])))) e2.s hx'
          have e13 := e2.trans e3
          refine ⟨x, dx, v1, v2, v3, rfl, upd_same, rfl, ?_⟩
          rw [upd_upd]
          refine k _ _ _ (e1.trans e13) ⟨x, dx, _, rfl, upd_same, fun q hq => ?_⟩
          simp only [List.mem_cons, List.not_mem_nil, or_false] at hq
          rcases hq with rfl | rfl | rfl
          · exact ⟨v1, by rw [lookup_putF, if_neg n13, lookup_putF, if_neg n12, lookup_putF, if_pos rfl], p1.mono e13.g h1⟩
          · exact ⟨v2, by rw [lookup_putF, if_neg n23, lookup_putF, if_pos rfl], p2.mono e13.g h2⟩
          · exact ⟨v3, by rw [lookup_putF, if_pos rfl], p3.mono e13.g h3⟩
theorem denf_cut {te tl th : TE} {ps : List Rp} {n m : Nat} (h : Den te ρ (rLst ps)) (hn : Den tl ρ (rI' (n : Int))) (hm : Den th ρ (rI' (m : Int))) (hl : n ≤ ps.length) : DenF (tSl (rSlL K) te (tPart tl) (tPart th)) ρ ((ps.drop n).take (m - n)) := fun G0 H0 G H σ F Q k =>
  h G0 H0 G H σ F _ fun x G1 H1 e1 ⟨a, vs, ex, hx, r⟩ => hn G0 H0 G1 H1 σ (F.ext e1) _ fun y G2 H2 e2 ey => ⟨(n : Int), ey, hm G0 H0 G2 H2 σ (F.ext (e1.trans e2)) _ fun z G3 H3 e3 ez => by
    have hl' : n ≤ vs.length := by rw [← r.length]; exact hl
    refine ⟨(m : Int), ez, a, vs, ex, SqL.of (e3.s _ _ (e3.g _ _ (e2.g _ _ hx))), fun p hp => ?_⟩
    have e : cutV vs (some (n : Int)) (some (m : Int)) = (vs.drop n).take (m - n) := by
      unfold cutV
      rw [HT.sIx_nat, HT.sIx_nat, Nat.min_eq_left hl']
      by_cases hml : m ≤ vs.length
      · rw [Nat.min_eq_left hml]
      · rw [Nat.min_eq_right (by omega), List.take_of_length_le (by rw [List.length_drop]; omega), List.take_of_length_le (by rw [List.length_drop]; omega)]
    rw [e]
    exact k p _ G3 H3 ((e1.trans e2).trans e3) hp (((r.mono (e2.g.trans e3.g)).drop n).take _)⟩
theorem denf_upto {te th : TE} {ps : List Rp} {m : Nat} (h : Den te ρ (rLst ps)) (hm : Den th ρ (rI' (m : Int))) : DenF (tSl (rSlL K) te tNoPart (tPart th)) ρ (ps.take m) := fun G0 H0 G H σ F Q k =>
  h G0 H0 G H σ F _ fun x G1 H1 e1 ⟨a, vs, ex, hx, r⟩ => hm G0 H0 G1 H1 σ (F.ext e1) _ fun z G3 H3 e3 ez => by
    refine ⟨(m : Int), ez, a, vs, ex, SqL.of (e3.s _ _ (e3.g _ _ hx)), fun p hp => ?_⟩
    have e : cutV vs none (some (m : Int)) = vs.take m := by
      unfold cutV
      rw [HT.sIx_nat, HT.sIx_none]
      show ((vs.drop 0).take (min m vs.length - 0)) = _
      rw [List.drop_zero, Nat.sub_zero]
      by_cases hml : m ≤ vs.length
      · rw [Nat.min_eq_left hml]
      · rw [Nat.min_eq_right (by omega), List.take_of_length_le (Nat.le_refl _), List.take_of_length_le (by omega)]
    rw [e]
    exact k p _ G3 H3 (e1.trans e3) hp ((r.mono e3.g).take _)
theorem den_last {ta tb : TE} {ps : List Rp} {p : Rp} (ha : Den ta ρ (rLst ps)) (hb : Den tb ρ (rI' (-1))) (hp : ps[ps.length - 1]? = some p) : Den (tOp (rIx K) ta tb) ρ p :=
  den_bin ha hb fun x y G H Q s ⟨a, vs, ex, hx, r⟩ ey k => by
    obtain ⟨v, hv, pv⟩ := r.get hp
    refine .inl ⟨a, vs, -1, v, ex, ey, SqL.of (s _ _ hx), ?_, k v G H (Ext.refl s) pv⟩
    have hl := r.length
    have hpl : ps.length - 1 < ps.length := (List.getElem?_eq_some_iff.mp hp).1
    unfold atI ixN
    rw [if_neg (by decide), if_pos (by omega)]
    show vs[((-1 : Int) + (vs.length : Int)).toNat]? = some v
    rw [show ((-1 : Int) + (vs.length : Int)).toNat = ps.length - 1 by omega]
    exact hv
theorem deni_rev {ta : TE} {ps : List Rp} {n : Nat} {item : Nat → Rp} (h : Den ta ρ (rLst ps)) (hn : n = ps.length) (hi : ∀ i, i < n → ps[n - 1 - i]? = some (item i)) : DenI (iRev K (tCons ta tNil)) ρ n item := fun G0 H0 G H σ F R k =>
  h G0 H0 G H σ F _ fun x G1 H1 e1 ⟨a, vs, ex, hx, r⟩ => by
    have hl : vs.length = n := by rw [hn, r.length]
    refine ⟨a, vs, by rw [ex], SqL.of (e1.s _ _ hx), k _ G1 H1 e1 ⟨fun i H2 s _ hl' => ?_, fun i G2 H2 x H3 s1 s2 _ hl' y => ?_, fun H2 s _ => by show vs.length ≤ n; omega⟩⟩
    · obtain ⟨v, hv, _⟩ := r.get (hi i hl')
      exact ⟨by show i < vs.length; omega, vs, v, SqL.of (s _ _ hx), by rw [hl]; exact hv⟩
    · obtain ⟨e, y⟩ := y
      subst e
      obtain ⟨v, hv, pv⟩ := r.get (hi i hl')
      have z := y vs (SqL.of (s2 _ _ (s1 _ _ hx)))
      rw [hl, hv] at z
      cases z
      exact ⟨G2, Ext.refl s2, (item i).mono s1 pv⟩
theorem den_max {ta tb : TE} {i j : Int} (ha : Den ta ρ (rI' i)) (hb : Den tb ρ (rI' j)) : Den (tCB (fun xs H Q => ∃ i j, xs = [.int i, .int j] ∧ Q (.int (if j > i then j else i)) H) (tCons ta (tCons tb tNil))) ρ (rI' (max i j)) := fun G0 H0 G H σ F Q k =>
  ha G0 H0 G H σ F _ fun x G1 H1 e1 ex => hb G0 H0 G1 H1 σ (F.ext e1) _ fun y G2 H2 e2 ey => ⟨i, j, by rw [show x = V.int i from ex, show y = V.int j from ey], k _ G2 H2 (e1.trans e2) (by show V.int _ = V.int _; congr 1; omega)⟩
theorem den_eqB {ta tb : TE} {a b : Bool} (ha : Den ta ρ (rB a)) (hb : Den tb ρ (rB b)) : Den (tOp rEq ta tb) ρ (rB (decide (a = b))) :=
  den_bin ha hb fun x y G H Q s ex ey k => by
    have ex : x = V.bl a := ex
    have ey : y = V.bl b := ey
    subst ex ey
    refine ⟨rfl, k _ G H (Ext.refl s) ?_⟩
    show V.bl _ = V.bl _
    congr 1
    exact decide_eq_decide.mpr ⟨fun h => by cases h; rfl, fun h => by rw [h]⟩
theorem den_neB {ta tb : TE} {a b : Bool} (ha : Den ta ρ (rB a)) (hb : Den tb ρ (rB b)) : Den (tOp rNe ta tb) ρ (rB (!decide (a = b))) :=
  den_bin ha hb fun x y G H Q s ex ey k => by
    have ex : x = V.bl a := ex
    have ey : y = V.bl b := ey
    subst ex ey
    refine ⟨rfl, k _ G H (Ext.refl s) ?_⟩
    show V.bl _ = V.bl _
    congr 2
    exact decide_eq_decide.mpr ⟨fun h => by cases h; rfl, fun h => by rw [h]⟩
end
section
variable {X : Cx}
theorem boot_max1 : bootBuiltins "max" = some (.builtin "max") := by decide +kernel
end
section
variable {ρ : List Slot} {K : PySem.W.Frag}
theorem den_isNil {ta : TE} {w : List Int} (ha : Den ta ρ (rRowZ w)) : Den (tOp (rEqD K) ta (tLst tNil)) ρ (rB (decide (w = []))) := by
  refine den_eq (den_eqD (d := .list (w.map PyData.int)) (e := .list (([] : List Int).map PyData.int)) ha (den_of_F (denf_lst dena_nil)) (hasD_lst hasD_int _) (hasD_lst hasD_int []) (shaped_ints _) (shaped_ints _)) ?_
  show rB (PyData.eqvAll _ _) = _
  rw [eqv_ints]
theorem den_notNil {ta : TE} {w : List Int} (ha : Den ta ρ (rRowZ w)) : Den (tOp (rNeD K) ta (tLst tNil)) ρ (rB (!decide (w = []))) := by
  refine den_eq (den_neD (d := .list (w.map PyData.int)) (e := .list (([] : List Int).map PyData.int)) ha (den_of_F (denf_lst dena_nil)) (hasD_lst hasD_int _) (hasD_lst hasD_int []) (shaped_ints _) (shaped_ints _)) ?_
  show rB (!PyData.eqvAll _ _) = _
  rw [eqv_ints]
theorem rep_zero (k : Nat) : (List.replicate k [rI' 0]).flatten = (List.replicate k (0 : Int)).map rI' := by
  induction k with
  | zero => rfl
  | succ k ih => rw [List.replicate_succ, List.flatten_cons, ih, List.replicate_succ, List.map_cons]; rfl
theorem den_lastZ {ta tb : TE} {w : List Int} (ha : Den ta ρ (rRowZ w)) (hb : Den tb ρ (rI' (-1))) (hn : w ≠ []) : Den (tOp (rIx K) ta tb) ρ (rI' (w.getD (w.length - 1) 0)) := by
  have hl : w.length - 1 < w.length := by
    have : w.length ≠ 0 := fun z => hn (List.length_eq_zero_iff.mp z)
    omega
  refine den_last ha hb ?_
  rw [List.length_map]
  exact intIx hl
/-- two fields, three fields: the names in their order -/
theorem den_f1 {ta : TE} {C : Addr} {f : Str} {p : Rp} {ps : List (Str × Rp)} (ha : Den ta ρ (rIns C ((f, p) :: ps))) (hc : Cls K C) (hn : NoAttr K C f) : Den (tFld K ta f) ρ p := den_fld ha hc hn (.head _)
theorem den_f2 {ta : TE} {C : Addr} {f : Str} {p : Rp} {a : Str × Rp} {ps : List (Str × Rp)} (ha : Den ta ρ (rIns C (a :: (f, p) :: ps))) (hc : Cls K C) (hn : NoAttr K C f) : Den (tFld K ta f) ρ p := den_fld ha hc hn (.tail _ (.head _))
end
/-- while, with what comes behind it: what is known there is read off the last state -/
theorem dens_whileE {α : Type} {tc : TT} {tb tu : TS} {o : Out} (ρs : α → List Slot) (P : α → Prop) (μ : α → Nat) (s0 : α) (h0 : P s0)
    (hs : ∀ s, P s → ∃ b, DenT tc (ρs s) b ∧ (b = true → ∃ s' ρ', DenS tb (ρs s) (.nx ρ') ∧ (∀ G0 H0 G H σ, Fr G0 H0 G H σ ρ' → Fr G0 H0 G H σ (ρs s')) ∧ P s' ∧ μ s' < μ s) ∧ (b = false → DenS tu (ρs s) o)) :
    DenS (tSeq (tWhile tc tb) tu) (ρs s0) o := fun G0 H0 G H σ F D k => by
  refine ⟨fun m σ2 H2 => ∃ s G2, m = μ s ∧ P s ∧ Same G G2 ∧ Fr G0 H0 G2 H2 σ2 (ρs s), ⟨_, s0, G, rfl, h0, Same.refl _, F⟩, ?_⟩
  rintro m σ2 H2 ⟨s, G2, rfl, ps, s2, F2⟩
  obtain ⟨b, hc, ht, hf⟩ := hs s ps
  refine hc _ _ _ _ _ F2 _ fun G3 H3 x3 => ?_
  cases b with
  | true =>
    rw [if_pos rfl]
    obtain ⟨s', ρ', hS, hw, ps', lt⟩ := ht rfl
    refine ⟨fun σ' H' => ∃ G4, Same G G4 ∧ Fr G0 H0 G4 H' σ' (ρs s'), fun σ' H' ⟨G4, s4, F4⟩ => ⟨μ s', lt, s', G4, rfl, ps', s4, F4⟩, hS _ _ _ _ _ (F2.ext x3) _ fun σ5 G5 H5 s5 F5 => ⟨G5, (s2.trans x3.g).trans s5, hw _ _ _ _ _ F5⟩⟩
  | false =>
    rw [if_neg (by decide)]
    exact hf rfl G0 H0 G3 H3 σ2 (F2.ext x3) D (k.mono (s2.trans x3.g))
section
variable {P : Program} {w : World} {K : PySem.W.Frag} {mg : Str → Option Value} {base : Heap}
end
end EM
end

section
set_option Elab.async false
set_option linter.all false
namespace EM
open ShMat
theorem sm_comm (n m : Nat) (f : Nat → Nat → Rat) : sm n (fun i => sm m (fun j => f i j)) = sm m (fun j => sm n (fun i => f i j)) := by
  induction n with
  | zero => show (0 : Rat) = _; exact (sm_zero (fun _ _ => rfl)).symm
  | succ n ih =>
    show sm n _ + sm m _ = _
    rw [ih, ← sm_add]; rfl
end EM
end

section
set_option Elab.async false
set_option linter.all false
namespace EM
open ShMat
end EM
end

section
set_option Elab.async false
set_option linter.all false
namespace EM
open ShMat
end EM
end

section
set_option Elab.async false
set_option linter.all false
namespace EM
open ShMat
def Tr (f : Poly) : Prop := f = [] ∨ f.getLastD 0 ≠ 0
theorem co_app_zero {f z : Poly} (hz : ∀ x ∈ z, x = 0) (k : Nat) : co (f ++ z) k = co f k := by
  unfold co
  simp only [List.getD_eq_getElem?_getD]
  by_cases hk : k < f.length
  · rw [List.getElem?_append_left hk]
  · rw [List.getElem?_append_right (by omega), List.getElem?_eq_none (l := f) (by omega)]
    cases e : z[k - f.length]? with
    | none => rfl
    | some x => exact hz x (List.mem_of_getElem? e)
theorem trim_split (f : Poly) : ∃ z : Poly, f = trim f ++ z ∧ ∀ x ∈ z, x = 0 := by
  refine ⟨(f.reverse.takeWhile fun q => q == 0).reverse, ?_, fun x hx => ?_⟩
  · unfold trim
    rw [← List.reverse_append, List.takeWhile_append_dropWhile, List.reverse_reverse]
  · have hx := List.mem_reverse.mp hx
    have := List.all_takeWhile (p := fun q : Rat => q == 0) (l := f.reverse)
    rw [List.all_eq_true] at this
    simpa using this x hx
theorem co_trim (f : Poly) (k : Nat) : co (trim f) k = co f k := by
  obtain ⟨z, e, hz⟩ := trim_split f
  conv => rhs; rw [e]
  exact (co_app_zero hz k).symm
theorem dropWhile_head : ∀ (l : List Rat), (l.dropWhile fun q => q == 0) = [] ∨ ∃ x t, (l.dropWhile fun q => q == 0) = x :: t ∧ x ≠ 0
  | [] => .inl rfl
  | x :: l => by
    rw [List.dropWhile_cons]
    by_cases h : x = 0
    · rw [if_pos (by simpa using h)]; exact dropWhile_head l
    · rw [if_neg (by simpa using h)]; exact .inr ⟨x, l, rfl, h⟩
theorem trim_tr (f : Poly) : Tr (trim f) := by
  unfold Tr trim
  rcases dropWhile_head f.reverse with h | ⟨x, t, h, hx⟩
  · left; rw [h]; rfl
  · right
    rw [h, List.reverse_cons, List.getLastD_concat]; exact hx
theorem Tr.last {f : Poly} (h : Tr f) (hf : f ≠ []) : co f (f.length - 1) ≠ 0 := by
  rcases h with h | h
  · exact absurd h hf
  · intro z
    apply h
    have hl : 0 < f.length := List.length_pos_iff.mpr hf
    unfold co at z
    rw [List.getLastD_eq_getLast?, List.getLast?_eq_getElem?, ← List.getD_eq_getElem?_getD]; exact z
theorem co_out {f : Poly} {k : Nat} (h : f.length ≤ k) : co f k = 0 := by
  unfold co; rw [List.getD_eq_getElem?_getD, List.getElem?_eq_none h]; rfl
theorem Tr.len_le {f g : Poly} (hf : Tr f) (h : ∀ k, g.length ≤ k → co f k = 0) : f.length ≤ g.length := by
  apply Classical.byContradiction
  intro z
  have hn : f ≠ [] := fun e => z (by rw [e]; exact Nat.zero_le _)
  exact hf.last hn (h _ (by omega))
theorem Tr.len_le' {f : Poly} {m : Nat} (hf : Tr f) (h : ∀ k, m ≤ k → co f k = 0) : f.length ≤ m := by
  apply Classical.byContradiction
  intro z
  have hn : f ≠ [] := fun e => z (by rw [e]; exact Nat.zero_le _)
  exact hf.last hn (h _ (by omega))
theorem Tr.ext {f g : Poly} (hf : Tr f) (hg : Tr g) (h : ∀ k, co f k = co g k) : f = g := by
  have l1 : f.length ≤ g.length := hf.len_le fun k hk => by rw [h, co_out hk]
  have l2 : g.length ≤ f.length := hg.len_le fun k hk => by rw [← h, co_out hk]
  apply List.ext_getElem (by omega)
  intro i h1 h2
  have := h i
  unfold co at this
  rw [getD_at _ _ h1, getD_at _ _ h2] at this
  exact this
theorem trim_eq {f g : Poly} (hg : Tr g) (h : ∀ k, co f k = co g k) : trim f = g := (trim_tr f).ext hg fun k => by rw [co_trim, h]
theorem trim_of_tr {f : Poly} (h : Tr f) : trim f = f := trim_eq h fun _ => rfl
def toP (f : Poly) : PS := ⟨co f⟩
theorem toP_c (f : Poly) (k : Nat) : (toP f).c k = co f k := rfl
theorem Tr.toP_inj {f g : Poly} (hf : Tr f) (hg : Tr g) (h : toP f = toP g) : f = g := hf.ext hg fun k => congrArg (fun p => PS.c p k) h
theorem toP_trim (f : Poly) : toP (trim f) = toP f := by ext k; exact co_trim f k
theorem co_range (m : Nat) (F : Nat → Rat) (k : Nat) : co ((List.range m).map F) k = if k < m then F k else 0 := by
  unfold co
  by_cases h : k < m
  · rw [if_pos h]; simp [List.getD_eq_getElem?_getD, h]
  · rw [if_neg h]; simp [List.getD_eq_getElem?_getD, h]
theorem toP_pplus (f g : Poly) : toP (pplus f g) = toP f + toP g := by
  ext k
  rw [PS.add_c, toP_c, toP_c, toP_c]
  unfold pplus
  rw [co_trim, co_range]
  split
  · rfl
  · rw [co_out (by omega), co_out (by omega)]; grind
theorem toP_pneg (f : Poly) : toP (pneg f) = - toP f := by
  ext k
  rw [PS.neg_c, toP_c, toP_c]
  unfold pneg co
  simp only [List.getD_eq_getElem?_getD, List.getElem?_map]
  cases f[k]? with
  | none => show (0 : Rat) = -0; grind
  | some x => rfl
theorem total_sm' (n : Nat) (f : Nat → Rat) : total ((List.range n).map f) = sm n f := by
  have key : ∀ (l : List Nat) (s : Rat), List.foldl (fun s k => s + f k) s l = s + total (l.map f) := fun l => by
    induction l with
    | nil => intro s; show s = s + 0; grind
    | cons x l ih => intro s; show List.foldl _ (s + f x) l = s + (f x + total (l.map f)); rw [ih]; grind
  have h2 : ∀ n, List.foldl (fun s k => s + f k) 0 (List.range n) = sm n f := fun n => by
    induction n with
    | zero => rfl
    | succ n ih => rw [List.range_succ, List.foldl_append, ih]; rfl
  have := key (List.range n) 0
  rw [h2] at this
  rw [this]; grind
theorem toP_ptimes (f g : Poly) : toP (ptimes f g) = toP f * toP g := by
  ext k
  rw [PS.mul_c, toP_c]
  unfold ptimes
  rw [co_trim, co_range]
  split
  · rw [total_sm']; rfl
  · rw [sm_zero]
    intro i hi
    rw [toP_c, toP_c]
    by_cases h : i < f.length
    · rw [co_out (f := g) (by omega)]; grind
    · rw [co_out (f := f) (by omega)]; grind
theorem toP_nil : toP [] = 0 := by ext k; rw [PS.zero_c]; rfl
theorem pplus_tr (f g : Poly) : Tr (pplus f g) := trim_tr _
theorem ptimes_tr (f g : Poly) : Tr (ptimes f g) := trim_tr _
/-- the degree of a product -/
theorem mul_top {f g : Poly} (hf : f ≠ []) (hg : g ≠ []) : (toP f * toP g).c (f.length - 1 + (g.length - 1)) = co f (f.length - 1) * co g (g.length - 1) := by
  have h1 : 0 < f.length := List.length_pos_iff.mpr hf
  have h2 : 0 < g.length := List.length_pos_iff.mpr hg
  rw [PS.mul_c, sm_one (j := f.length - 1) (by omega) (fun i hi ne => by
    rw [toP_c, toP_c]
    by_cases h : i < f.length
    · rw [co_out (f := g) (by omega)]; grind
    · rw [co_out (f := f) (by omega)]; grind)]
  rw [toP_c, toP_c, show f.length - 1 + (g.length - 1) - (f.length - 1) = g.length - 1 by omega]
theorem mul_out {f g : Poly} {k : Nat} (h : f.length + g.length ≤ k + 1) : (toP f * toP g).c k = 0 := by
  rw [PS.mul_c]
  refine sm_zero fun i hi => ?_
  rw [toP_c, toP_c]
  by_cases h' : i < f.length
  · rw [co_out (f := g) (by omega)]; grind
  · rw [co_out (f := f) (by omega)]; grind
theorem ptimes_len {f g : Poly} (hf : Tr f) (hg : Tr g) (nf : f ≠ []) (ng : g ≠ []) : (ptimes f g).length = f.length + g.length - 1 := by
  have h1 : 0 < f.length := List.length_pos_iff.mpr nf
  have h2 : 0 < g.length := List.length_pos_iff.mpr ng
  have top := mul_top nf ng
  have e : ∀ k, co (ptimes f g) k = (toP f * toP g).c k := fun k => by rw [← toP_ptimes]; rfl
  have le : (ptimes f g).length ≤ f.length + g.length - 1 := (ptimes_tr f g).len_le' fun k hk => by rw [e, mul_out (by omega)]
  apply Nat.le_antisymm le
  apply Classical.byContradiction
  intro z
  have : co (ptimes f g) (f.length - 1 + (g.length - 1)) = 0 := co_out (by omega)
  rw [e, top] at this
  rcases Rat.mul_eq_zero.mp this with w | w
  · exact hf.last nf w
  · exact hg.last ng w
/-- **one quotient, one rest** -/
theorem div_unique {g q r q' r' : Poly} (hg : Tr g) (ng : g ≠ []) (hq : Tr q) (hr : Tr r) (hq' : Tr q') (hr' : Tr r') (lr : r.length < g.length) (lr' : r'.length < g.length) (h : toP q * toP g + toP r = toP q' * toP g + toP r') : q = q' ∧ r = r' := by
  let d : Poly := pplus q (pneg q')
  have hd : toP d = toP q - toP q' := by show toP (pplus q (pneg q')) = _; rw [toP_pplus, toP_pneg]; grind
  have ed : toP d * toP g = toP r' - toP r := by rw [hd]; grind
  have hn : d = [] := by
    apply Classical.byContradiction
    intro nd
    have top := mul_top nd ng
    rw [ed, PS.sub_c, toP_c, toP_c, co_out (by omega), co_out (by omega)] at top
    have : co d (d.length - 1) * co g (g.length - 1) = 0 := by rw [← top]; grind
    rcases Rat.mul_eq_zero.mp this with w | w
    · exact (pplus_tr _ _).last nd w
    · exact hg.last ng w
  have e1 : toP q = toP q' := by
    have : toP q - toP q' = 0 := by rw [← hd, hn, toP_nil]
    grind
  have e2 : toP r = toP r' := by rw [e1] at h; grind
  exact ⟨hq.toP_inj hq' e1, hr.toP_inj hr' e2⟩
end EM
end

section
set_option Elab.async false
set_option linter.all false
namespace EM
open ShMat
theorem leading_co {f : Poly} : leading f = co f (f.length - 1) := by
  unfold leading co
  rw [List.getLastD_eq_getLast?, List.getLast?_eq_getElem?, List.getD_eq_getElem?_getD]
theorem mono_tr {k : Nat} {x : Rat} (h : x ≠ 0) : Tr (List.replicate k 0 ++ [x]) := by
  right; rw [List.getLastD_concat]; exact h
theorem divideFrom_spec {g : Poly} (hg : Tr g) (ng : g ≠ []) : ∀ (n : Nat) (q r : Poly), Tr r → r.length ≤ n → 
    toP (divideFrom n q r g).1 * toP g + toP (divideFrom n q r g).2 = toP q * toP g + toP r ∧ Tr (divideFrom n q r g).1 ∧ Tr (divideFrom n q r g).2 ∧ (divideFrom n q r g).2.length < g.length
  | 0, q, r, hr, hl => by
    have e : r = [] := List.length_eq_zero_iff.mp (by omega)
    subst e
    have h2 : 0 < g.length := List.length_pos_iff.mpr ng
    unfold divideFrom
    exact ⟨by rw [toP_trim, toP_trim], trim_tr _, trim_tr _, by rw [trim_of_tr hr]; exact h2⟩
  | n + 1, q, r, hr, hl => by
    unfold divideFrom
    by_cases hlt : r.length < g.length
    · rw [if_pos hlt]
      exact ⟨by rw [toP_trim, toP_trim], trim_tr _, trim_tr _, by rw [trim_of_tr hr]; exact hlt⟩
    · rw [if_neg hlt]
      dsimp only
      have h2 : 0 < g.length := List.length_pos_iff.mpr ng
      have nr : r ≠ [] := fun e => by rw [e] at hlt; exact hlt h2
      have lr : leading r ≠ 0 := by rw [leading_co]; exact hr.last nr
      have lg : leading g ≠ 0 := by rw [leading_co]; exact hg.last ng
      have hx : leading r / leading g ≠ 0 := by
        rw [Rat.div_def]; intro z
        rcases Rat.mul_eq_zero.mp z with w | w
        · exact lr w
        · have := Rat.mul_inv_cancel _ lg
          rw [w, Rat.mul_zero] at this
          exact absurd this (by decide)
      generalize hm : (List.replicate (r.length - g.length) 0 ++ [leading r / leading g] : Poly) = m
      have mt : Tr m := by rw [← hm]; exact mono_tr hx
      have ml : m.length = r.length - g.length + 1 := by rw [← hm]; simp
      have nm : m ≠ [] := fun e => by rw [e] at ml; simp at ml
      have mc : co m (m.length - 1) = leading r / leading g := by
        rw [← leading_co, ← hm]
        unfold leading; rw [List.getLastD_concat]
      have top := mul_top nm ng
      rw [mc, ← leading_co] at top
      have hlen : (pplus r (pneg (ptimes m g))).length ≤ n := by
        refine (pplus_tr _ _).len_le' fun k hk => ?_
        have e : co (pplus r (pneg (ptimes m g))) k = co r k - (toP m * toP g).c k := by
          have := congrArg (fun p => PS.c p k) (toP_pplus r (pneg (ptimes m g)))
          simp only [PS.add_c, toP_pneg, PS.neg_c, toP_ptimes, toP_c] at this
          rw [this]; grind
        rw [e]
        by_cases hk' : r.length ≤ k
        · rw [co_out hk', mul_out (by omega)]; grind
        · have ek : k = m.length - 1 + (g.length - 1) := by omega
          have ek2 : k = r.length - 1 := by omega
          have c1 : co r k = leading r := by rw [leading_co, ek2]
          rw [c1, ek, top, Rat.div_def, Rat.mul_assoc, Rat.inv_mul_cancel _ lg]; grind
      obtain ⟨e1, e2, e3, e4⟩ := divideFrom_spec hg ng n (pplus q m) (pplus r (pneg (ptimes m g))) (pplus_tr _ _) hlen
      refine ⟨?_, e2, e3, e4⟩
      rw [e1, toP_pplus, toP_pplus, toP_pneg, toP_ptimes]; grind
theorem trim_len (f : Poly) : (trim f).length ≤ f.length := (trim_tr f).len_le fun k hk => by rw [co_trim, co_out hk]
theorem divide_spec {f g : Poly} (ng : trim g ≠ []) : toP f = toP (divide f g).1 * toP g + toP (divide f g).2 ∧ Tr (divide f g).1 ∧ Tr (divide f g).2 ∧ (divide f g).2.length < (trim g).length := by
  have h := divideFrom_spec (trim_tr g) ng (f.length + 1) [] (trim f) (trim_tr f) (by have := trim_len f; omega)
  refine ⟨?_, h.2.1, h.2.2.1, h.2.2.2⟩
  have e := h.1
  rw [toP_nil, toP_trim, toP_trim] at e
  show toP f = toP (divideFrom (f.length + 1) [] (trim f) (trim g)).1 * toP g + toP (divideFrom (f.length + 1) [] (trim f) (trim g)).2
  rw [e]; grind
/-- whatever is a quotient and a rest is the quotient and the rest -/
theorem divide_eq {f g q r : Poly} (ng : trim g ≠ []) (hq : Tr q) (hr : Tr r) (lr : r.length < (trim g).length) (h : toP f = toP q * toP g + toP r) : divide f g = (q, r) := by
  obtain ⟨e1, e2, e3, e4⟩ := divide_spec (f := f) ng
  have := div_unique (trim_tr g) ng e2 e3 hq hr e4 lr (by rw [toP_trim, ← e1, h])
  exact Prod.ext this.1 this.2
theorem sc_co {f f' : Poly} {c : Rat} (h : toP f' = PS.cst c * toP f) (k : Nat) : co f' k = c * co f k := by
  have := congrArg (fun p => PS.c p k) h
  simp only [PS.cst_mul, toP_c] at this
  exact this
def smulP (c : Rat) (f : Poly) : Poly := f.map fun q => c * q
theorem toP_smul (c : Rat) (f : Poly) : toP (smulP c f) = PS.cst c * toP f := by
  ext k
  rw [PS.cst_mul, toP_c, toP_c]
  unfold smulP ShMat.co
  simp only [List.getD_eq_getElem?_getD, List.getElem?_map]
  cases f[k]? with
  | none => show (0 : Rat) = c * 0; grind
  | some x => rfl
theorem smul_tr {c : Rat} (c0 : c ≠ 0) {f : Poly} (h : Tr f) : Tr (smulP c f) := by
  by_cases hn : f = []
  · left; rw [hn]; rfl
  · right
    have hl := h.last hn
    have e : (smulP c f).getLastD 0 = co (smulP c f) ((smulP c f).length - 1) := leading_co
    rw [e]
    have : (smulP c f).length = f.length := by unfold smulP; simp
    rw [this]
    have := sc_co (toP_smul c f) (f.length - 1)
    rw [this]
    intro z
    rcases Rat.mul_eq_zero.mp z with w | w
    · exact c0 w
    · exact hl w
theorem cst_cst (a b : Rat) : PS.cst a * PS.cst b = PS.cst (a * b) := by
  ext k; rw [PS.cst_mul]
  show a * (if k = 0 then b else 0) = if k = 0 then a * b else 0
  split <;> grind
end EM
end

section
set_option Elab.async false
set_option linter.all false
namespace EM
open ShMat
def coZ (f : List Int) (k : Nat) : Int := f.getD k 0
def castP (f : List Int) : Poly := f.map fun (z : Int) => (z : Rat)
def TrZ (f : List Int) : Prop := f = [] ∨ coZ f (f.length - 1) ≠ 0
theorem coZ_out {f : List Int} {k : Nat} (h : f.length ≤ k) : coZ f k = 0 := by
  unfold coZ; rw [List.getD_eq_getElem?_getD, List.getElem?_eq_none h]; rfl
theorem coZ_at {f : List Int} {k : Nat} (h : k < f.length) : coZ f k = f[k] := getD_at _ _ h
theorem co_cast (f : List Int) (k : Nat) : co (castP f) k = ((coZ f k : Int) : Rat) := by
  unfold co castP coZ
  simp only [List.getD_eq_getElem?_getD, List.getElem?_map]
  cases f[k]? with
  | none => rfl
  | some x => rfl
theorem cast_len (f : List Int) : (castP f).length = f.length := by unfold castP; rw [List.length_map]
theorem cast_nil {f : List Int} : castP f = [] ↔ f = [] := by unfold castP; exact List.map_eq_nil_iff
theorem castQ_zero {a : Int} : (a : Rat) = 0 ↔ a = 0 := by exact_mod_cast Iff.rfl
theorem TrZ.tr {f : List Int} (h : TrZ f) : Tr (castP f) := by
  rcases h with h | h
  · left; rw [h]; rfl
  · right
    intro z
    apply h
    have hl : (castP f).getLastD 0 = co (castP f) ((castP f).length - 1) := leading_co
    rw [hl, co_cast, cast_len] at z
    exact castQ_zero.mp z
theorem TrZ.len_le {f : List Int} {m : Nat} (hf : TrZ f) (h : ∀ k, m ≤ k → coZ f k = 0) : f.length ≤ m := by
  have := hf.tr.len_le' (m := m) fun k hk => by rw [co_cast, h k hk]; rfl
  rwa [cast_len] at this
def tsz (f : List Int) : Nat → Nat
  | 0 => 0
  | n + 1 => if coZ f n = 0 then tsz f n else n + 1
def trimZ (f : List Int) : List Int := f.take (tsz f f.length)
theorem tsz_le (f : List Int) : ∀ n, tsz f n ≤ n
  | 0 => Nat.le_refl _
  | n + 1 => by
    unfold tsz
    split
    · exact Nat.le_succ_of_le (tsz_le f n)
    · exact Nat.le_refl _
theorem tsz_zero (f : List Int) : ∀ n k, tsz f n ≤ k → k < n → coZ f k = 0
  | 0, _, _, h => by omega
  | n + 1, k, h1, h2 => by
    unfold tsz at h1
    split at h1
    · rename_i h
      by_cases e : k = n
      · rw [e]; exact h
      · exact tsz_zero f n k h1 (by omega)
    · omega
theorem tsz_last (f : List Int) : ∀ n, tsz f n = 0 ∨ coZ f (tsz f n - 1) ≠ 0
  | 0 => .inl rfl
  | n + 1 => by
    unfold tsz
    split
    · exact tsz_last f n
    · rename_i h; exact .inr h
theorem trimZ_len (f : List Int) : (trimZ f).length = tsz f f.length := by
  unfold trimZ; rw [List.length_take]; have := tsz_le f f.length; omega
theorem coZ_trim (f : List Int) (k : Nat) : coZ (trimZ f) k = coZ f k := by
  by_cases h : k < tsz f f.length
  · have hk : k < f.length := Nat.lt_of_lt_of_le h (tsz_le _ _)
    unfold trimZ coZ
    rw [List.getD_eq_getElem?_getD, List.getD_eq_getElem?_getD, List.getElem?_take_of_lt h]
  · rw [coZ_out (by rw [trimZ_len]; omega)]
    by_cases hk : k < f.length
    · exact (tsz_zero f _ k (by omega) hk).symm
    · exact (coZ_out (by omega)).symm
theorem trimZ_tr (f : List Int) : TrZ (trimZ f) := by
  rcases tsz_last f f.length with h | h
  · left; exact List.length_eq_zero_iff.mp (by rw [trimZ_len]; exact h)
  · right; rw [trimZ_len, coZ_trim]; exact h
theorem trimZ_le (f : List Int) : (trimZ f).length ≤ f.length := by rw [trimZ_len]; exact tsz_le _ _
theorem coZ_range (m : Nat) (F : Nat → Int) (k : Nat) : coZ ((List.range m).map F) k = if k < m then F k else 0 := by
  unfold coZ
  by_cases h : k < m
  · rw [if_pos h]; simp [List.getD_eq_getElem?_getD, h]
  · rw [if_neg h]; simp [List.getD_eq_getElem?_getD, h]
def sumZ (f g : List Int) : List Int := trimZ ((List.range (max f.length g.length)).map fun k => coZ f k + coZ g k)
theorem sumZ_tr (f g : List Int) : TrZ (sumZ f g) := trimZ_tr _
theorem coZ_sum (f g : List Int) (k : Nat) : coZ (sumZ f g) k = coZ f k + coZ g k := by
  unfold sumZ
  rw [coZ_trim, coZ_range]
  split
  · rfl
  · rw [coZ_out (by omega), coZ_out (by omega)]; rfl
theorem sumZ_le (f g : List Int) : (sumZ f g).length ≤ max f.length g.length := by
  have := trimZ_le ((List.range (max f.length g.length)).map fun k => coZ f k + coZ g k)
  rwa [List.length_map, List.length_range] at this
def growZ (f : List Int) (c : Int) : List Int := f.map fun x => x * c
theorem coZ_grow (f : List Int) (c : Int) (k : Nat) : coZ (growZ f c) k = coZ f k * c := by
  unfold growZ coZ
  simp only [List.getD_eq_getElem?_getD, List.getElem?_map]
  cases f[k]? with
  | none => simp
  | some x => rfl
theorem growZ_len (f : List Int) (c : Int) : (growZ f c).length = f.length := by unfold growZ; rw [List.length_map]
theorem growZ_tr {f : List Int} {c : Int} (h : TrZ f) (c0 : c ≠ 0) : TrZ (growZ f c) := by
  rcases h with h | h
  · left; rw [h]; rfl
  · right; rw [growZ_len, coZ_grow]; exact Int.mul_ne_zero h c0
def shZ (k : Nat) (g : List Int) : List Int := List.replicate k 0 ++ g
theorem coZ_sh (k : Nat) (g : List Int) (n : Nat) : coZ (shZ k g) n = if n < k then 0 else coZ g (n - k) := by
  unfold shZ coZ
  simp only [List.getD_eq_getElem?_getD]
  by_cases h : n < k
  · rw [if_pos h, List.getElem?_append_left (by simpa using h)]
    simp [List.getElem?_replicate, h]
  · rw [if_neg h, List.getElem?_append_right (by simp; omega)]
    simp
theorem shZ_len (k : Nat) (g : List Int) : (shZ k g).length = k + g.length := by unfold shZ; simp
def zP (f : List Int) : PS := toP (castP f)
theorem zP_c (f : List Int) (k : Nat) : (zP f).c k = ((coZ f k : Int) : Rat) := co_cast f k
def XP (k : Nat) : PS := ⟨fun n => if n = k then 1 else 0⟩
theorem XP_mul (k : Nat) (p : PS) (n : Nat) : (XP k * p).c n = if n < k then 0 else p.c (n - k) := by
  rw [PS.mul_c]
  by_cases h : n < k
  · rw [if_pos h]
    refine sm_zero fun i hi => ?_
    show (if i = k then (1 : Rat) else 0) * _ = 0
    rw [if_neg (by omega)]; grind
  · rw [if_neg h, sm_one (j := k) (by omega) (fun i _ ne => by show (if i = k then (1 : Rat) else 0) * _ = 0; rw [if_neg ne]; grind)]
    show (if k = k then (1 : Rat) else 0) * _ = _
    rw [if_pos rfl]; grind
theorem XP_zero : XP 0 = 1 := by ext n; rfl
theorem XP_succ (k : Nat) : XP (k + 1) = XP 1 * XP k := by
  ext n
  rw [XP_mul]
  show (if n = k + 1 then (1 : Rat) else 0) = if n < 1 then 0 else if n - 1 = k then 1 else 0
  by_cases h : n < 1
  · rw [if_pos h, if_neg (by omega)]
  · rw [if_neg h]
    by_cases e : n = k + 1
    · rw [if_pos e, if_pos (by omega)]
    · rw [if_neg e, if_neg (by omega)]
theorem zP_sum (f g : List Int) : zP (sumZ f g) = zP f + zP g := by
  ext k; rw [PS.add_c, zP_c, zP_c, zP_c, coZ_sum, Rat.intCast_add]
theorem zP_trim (f : List Int) : zP (trimZ f) = zP f := by ext k; rw [zP_c, zP_c, coZ_trim]
theorem zP_grow (f : List Int) (c : Int) : zP (growZ f c) = PS.cst (c : Rat) * zP f := by
  ext k; rw [PS.cst_mul, zP_c, zP_c, coZ_grow, Rat.intCast_mul]; grind
theorem zP_sh (k : Nat) (g : List Int) : zP (shZ k g) = XP k * zP g := by
  ext n
  rw [XP_mul, zP_c, coZ_sh]
  split
  · rfl
  · rw [zP_c]
theorem zP_nil : zP [] = 0 := by ext k; rw [zP_c, PS.zero_c]; rfl
def mulTo (f g : List Int) : Nat → List Int
  | 0 => []
  | k + 1 => sumZ (mulTo f g k) (shZ k (growZ g (coZ f k)))
def mulZ (f g : List Int) : List Int := mulTo f g f.length
theorem mulTo_tr (f g : List Int) : ∀ k, TrZ (mulTo f g k)
  | 0 => .inl rfl
  | k + 1 => sumZ_tr _ _
theorem mulTo_P (f g : List Int) : ∀ k, zP (mulTo f g k) = (⟨fun n => if n < k then ((coZ f n : Int) : Rat) else 0⟩ : PS) * zP g
  | 0 => by
    show zP [] = _
    rw [zP_nil]
    have : (⟨fun n => if n < 0 then ((coZ f n : Int) : Rat) else 0⟩ : PS) = 0 := by
      ext n; rw [PS.zero_c]; show (if n < 0 then ((coZ f n : Int) : Rat) else 0) = 0; rw [if_neg (Nat.not_lt_zero n)]
    rw [this]; grind
  | k + 1 => by
    show zP (sumZ (mulTo f g k) (shZ k (growZ g (coZ f k)))) = _
    rw [zP_sum, mulTo_P f g k, zP_sh, zP_grow]
    have : (⟨fun n => if n < k + 1 then ((coZ f n : Int) : Rat) else 0⟩ : PS) = (⟨fun n => if n < k then ((coZ f n : Int) : Rat) else 0⟩ : PS) + XP k * PS.cst ((coZ f k : Int) : Rat) := by
      ext n
      rw [PS.add_c, XP_mul]
      show (if n < k + 1 then _ else _) = (if n < k then _ else _) + (if n < k then 0 else if n - k = 0 then ((coZ f k : Int) : Rat) else 0)
      by_cases h : n < k
      · rw [if_pos h, if_pos h, if_pos (by omega)]; grind
      · rw [if_neg h, if_neg h]
        by_cases e : n = k
        · rw [if_pos (by omega), if_pos (by omega), e]; grind
        · rw [if_neg (by omega), if_neg (by omega)]; grind
    rw [this]; grind
theorem zP_mul (f g : List Int) : zP (mulZ f g) = zP f * zP g := by
  unfold mulZ
  rw [mulTo_P]
  congr 1
  ext n
  rw [zP_c]
  show (if n < f.length then _ else _) = _
  split
  · rfl
  · rw [coZ_out (by omega)]; rfl
theorem mulTo_len (f g : List Int) : ∀ k, (mulTo f g k).length ≤ k + g.length
  | 0 => Nat.zero_le _
  | k + 1 => by
    have := sumZ_le (mulTo f g k) (shZ k (growZ g (coZ f k)))
    rw [shZ_len, growZ_len] at this
    have := mulTo_len f g k
    show (sumZ _ _).length ≤ _
    omega
def BZ (m : Nat) (f : List Int) : Prop := ∀ k, (coZ f k).natAbs < 2 ^ m
theorem BZ.mono {m n : Nat} {f : List Int} (h : BZ m f) (hl : m ≤ n) : BZ n f := fun k => natAbs_mono (h k) hl
theorem BZ.sum {m n : Nat} {f g : List Int} (hf : BZ m f) (hg : BZ n g) : BZ (max m n + 1) (sumZ f g) := fun k => by rw [coZ_sum]; exact natAbs_add_lt (hf k) (hg k)
theorem BZ.grow {m n : Nat} {f : List Int} {c : Int} (hf : BZ m f) (hc : c.natAbs < 2 ^ n) : BZ (m + n) (growZ f c) := fun k => by rw [coZ_grow]; exact natAbs_mul_lt (hf k) hc
theorem BZ.sh {m : Nat} {f : List Int} (hf : BZ m f) (k : Nat) : BZ m (shZ k f) := fun n => by
  rw [coZ_sh]; split
  · exact Nat.two_pow_pos m
  · exact hf _
theorem BZ.nil (m : Nat) : BZ m [] := fun k => by show (0 : Int).natAbs < _; exact Nat.two_pow_pos m
theorem mulTo_bd {m n : Nat} {f g : List Int} (hf : BZ m f) (hg : BZ n g) : ∀ k, BZ (n + m + k) (mulTo f g k)
  | 0 => .nil _
  | k + 1 => by
    have := (mulTo_bd hf hg k).sum ((hg.grow (hf k)).sh k)
    exact this.mono (by omega)
structure DV where
  q : List Int
  r : List Int
  s : Int
/-- one turn, at the shift k -/
def dvStep (g : List Int) (t : DV) (k : Nat) : DV :=
  let l := coZ g (g.length - 1)
  let h := if l < 0 then -(coZ t.r (k + g.length - 1)) else coZ t.r (k + g.length - 1)
  ⟨[h] ++ growZ t.q (l.natAbs : Int), sumZ (growZ t.r (l.natAbs : Int)) (shZ k (growZ g (-h))), t.s * (l.natAbs : Int)⟩
/-- the first n turns of those from shift N - 1 down -/
def dvTo (f g : List Int) (N : Nat) : Nat → DV
  | 0 => ⟨[], f, 1⟩
  | n + 1 => dvStep g (dvTo f g N n) (N - 1 - n)
def divZ (f g : List Int) : DV := dvTo f g (f.length + 1 - g.length) (f.length + 1 - g.length)
theorem zP_cons (h : Int) (q : List Int) : zP ([h] ++ q) = PS.cst (h : Rat) + XP 1 * zP q := by
  ext n
  rw [PS.add_c, XP_mul, zP_c, zP_c]
  show (((coZ (h :: q) n : Int)) : Rat) = (if n = 0 then (h : Rat) else 0) + _
  cases n with
  | zero => rw [if_pos rfl, if_pos (by omega)]; show (h : Rat) = _; grind
  | succ n => rw [if_neg (by omega), if_neg (by omega)]; show ((coZ q n : Int) : Rat) = 0 + ((coZ q (n + 1 - 1) : Int) : Rat); rw [Nat.add_sub_cancel]; grind
structure DInv (f g : List Int) (N n : Nat) (t : DV) : Prop where
  s0 : 0 < t.s
  tr : TrZ t.r
  rl : t.r.length ≤ N - n + g.length - 1
  ql : t.q.length = n
  q0 : n = 0 ∨ coZ t.q (n - 1) ≠ 0
  top : n = 0 → coZ t.r (N - 1 + g.length - 1) ≠ 0
  eq : PS.cst (t.s : Rat) * zP f = XP (N - n) * zP t.q * zP g + zP t.r
theorem dv_inv {f g : List Int} (hf : TrZ f) (hg : TrZ g) (ng : g ≠ []) (N : Nat) (hN : N = f.length + 1 - g.length) (hNg : 0 < N) : ∀ n, n ≤ N → DInv f g N n (dvTo f g N n)
  | 0, _ => by
    have gl : 0 < g.length := List.length_pos_iff.mpr ng
    refine ⟨by show (0 : Int) < 1; decide, hf, by show f.length ≤ _; omega, rfl, .inl rfl, fun _ => ?_, ?_⟩
    · show coZ f (N - 1 + g.length - 1) ≠ 0
      rw [show N - 1 + g.length - 1 = f.length - 1 by omega]
      rcases hf with h | h
      · rw [h] at hN; simp at hN; omega
      · exact h
    show PS.cst ((1 : Int) : Rat) * zP f = XP N * zP [] * zP g + zP f
    rw [zP_nil]
    have : PS.cst ((1 : Int) : Rat) = 1 := by ext n; rfl
    rw [this]; grind
  | n + 1, hn => by
    have ih := dv_inv hf hg ng N hN hNg n (by omega)
    have gl : 0 < g.length := List.length_pos_iff.mpr ng
    have l0 : coZ g (g.length - 1) ≠ 0 := by
      rcases hg with h | h
      · exact absurd h ng
      · exact h
    show DInv f g N (n + 1) (dvStep g (dvTo f g N n) (N - 1 - n))
    generalize dvTo f g N n = t at ih
    obtain ⟨s0, tr, rl, ql, q0, top, eq⟩ := ih
    unfold dvStep
    dsimp only
    generalize hl : coZ g (g.length - 1) = l at l0 ⊢
    generalize hh : (if l < 0 then -(coZ t.r (N - 1 - n + g.length - 1)) else coZ t.r (N - 1 - n + g.length - 1)) = h
    have lp : 0 < ((l.natAbs : Nat) : Int) := by omega
    have hl2 : h * l = coZ t.r (N - 1 - n + g.length - 1) * (l.natAbs : Int) := by
      rw [← hh]
      split
      · rw [show ((l.natAbs : Nat) : Int) = -l by omega, Int.neg_mul, Int.mul_neg]
      · rw [show ((l.natAbs : Nat) : Int) = l by omega]
    refine ⟨Int.mul_pos s0 lp, sumZ_tr _ _, ?_, ?_, .inr ?_, fun z => by omega, ?_⟩
    · refine (sumZ_tr _ _).len_le fun k hk => ?_
      rw [coZ_sum, coZ_grow, coZ_sh]
      by_cases e : k = N - 1 - n + g.length - 1
      · rw [if_neg (by omega), coZ_grow, e, show N - 1 - n + g.length - 1 - (N - 1 - n) = g.length - 1 by omega, hl, Int.mul_neg, Int.mul_comm l, hl2]
        omega
      · rw [coZ_out (f := t.r) (by omega)]
        split
        · simp
        · rw [coZ_out (by rw [growZ_len]; omega)]; simp
    · rw [List.length_append, growZ_len, ql]; simp; omega
    · show coZ ([h] ++ growZ t.q (l.natAbs : Int)) (n + 1 - 1) ≠ 0
      cases n with
      | zero =>
        show h ≠ 0
        intro z
        rw [z, Int.zero_mul] at hl2
        rcases Int.mul_eq_zero.mp hl2.symm with w | w
        · exact top rfl w
        · omega
      | succ n =>
        show coZ (growZ t.q (l.natAbs : Int)) n ≠ 0
        rw [coZ_grow]
        refine Int.mul_ne_zero ?_ (by omega)
        rcases q0 with z | z
        · omega
        · exact z
    · rw [zP_cons, zP_sum, zP_grow, zP_grow, zP_sh, zP_grow, Rat.intCast_mul, Rat.intCast_neg]
      have e1 : PS.cst ((t.s : Rat) * ((l.natAbs : Int) : Rat)) = PS.cst ((l.natAbs : Int) : Rat) * PS.cst (t.s : Rat) := by rw [cst_cst]; congr 1; grind
      have e2 : XP (N - n) = XP 1 * XP (N - (n + 1)) := by rw [show N - n = N - (n + 1) + 1 by omega, XP_succ]
      have e3 : PS.cst (-(h : Rat)) = - PS.cst (h : Rat) := PS.cst_neg _
      rw [e1, e3, show N - 1 - n = N - (n + 1) by omega]
      rw [e2] at eq
      have : PS.cst ((l.natAbs : Int) : Rat) * PS.cst (t.s : Rat) * zP f = PS.cst ((l.natAbs : Int) : Rat) * (PS.cst (t.s : Rat) * zP f) := by grind
      rw [this, eq]; grind
theorem divZ_spec {f g : List Int} (hf : TrZ f) (hg : TrZ g) (ng : g ≠ []) : 0 < (divZ f g).s ∧ TrZ (divZ f g).r ∧ (divZ f g).r.length < g.length ∧ TrZ (divZ f g).q ∧ PS.cst ((divZ f g).s : Rat) * zP f = zP (divZ f g).q * zP g + zP (divZ f g).r := by
  have gl : 0 < g.length := List.length_pos_iff.mpr ng
  by_cases h : f.length + 1 - g.length = 0
  · unfold divZ
    rw [h]
    refine ⟨by show (0 : Int) < 1; decide, hf, by show f.length < _; omega, .inl rfl, ?_⟩
    show PS.cst ((1 : Int) : Rat) * zP f = zP [] * zP g + zP f
    rw [zP_nil]
    have : PS.cst ((1 : Int) : Rat) = 1 := by ext n; rfl
    rw [this]; grind
  · obtain ⟨s0, tr, rl, ql, q0, top, eq⟩ := dv_inv hf hg ng _ rfl (by omega) (f.length + 1 - g.length) (Nat.le_refl _)
    change 0 < (divZ f g).s at s0
    change TrZ (divZ f g).r at tr
    change (divZ f g).r.length ≤ _ at rl
    change (divZ f g).q.length = _ at ql
    change _ ∨ coZ (divZ f g).q _ ≠ 0 at q0
    change PS.cst ((divZ f g).s : Rat) * zP f = XP _ * zP (divZ f g).q * zP g + zP (divZ f g).r at eq
    refine ⟨s0, tr, by omega, ?_, ?_⟩
    · right; rw [ql]
      rcases q0 with z | z
      · exact absurd z h
      · exact z
    · rw [eq, Nat.sub_self, XP_zero]; grind
theorem dv_bd {f g : List Int} {F B : Nat} (hf : BZ F f) (hg : BZ B g) (N : Nat) : ∀ n, BZ (F + n * (B + 1)) (dvTo f g N n).r
  | 0 => by simpa [dvTo] using hf
  | n + 1 => by
    have ih := dv_bd hf hg N n
    show BZ _ (dvStep g (dvTo f g N n) (N - 1 - n)).r
    unfold dvStep
    dsimp only
    have hl : ((((coZ g (g.length - 1)).natAbs : Nat) : Int)).natAbs < 2 ^ B := by rw [Int.natAbs_natCast]; exact hg _
    refine ((ih.grow hl).sum ((hg.grow (n := F + n * (B + 1)) (c := -(if coZ g (g.length - 1) < 0 then -(coZ (dvTo f g N n).r (N - 1 - n + g.length - 1)) else coZ (dvTo f g N n).r (N - 1 - n + g.length - 1))) ?_).sh _)).mono ?_
    · have := ih (N - 1 - n + g.length - 1)
      split <;> omega
    · rw [Nat.succ_mul n (B + 1)]; omega
theorem dv_bs {f g : List Int} {B : Nat} (hg : BZ B g) (N : Nat) : ∀ n, (dvTo f g N n).s.natAbs < 2 ^ (n * B + 1)
  | 0 => by show (1 : Int).natAbs < 2 ^ (0 * B + 1); rw [Nat.zero_mul]; decide
  | n + 1 => by
    have ih := dv_bs (f := f) hg N n
    show ((dvTo f g N n).s * _).natAbs < _
    have hl : ((((coZ g (g.length - 1)).natAbs : Nat) : Int)).natAbs < 2 ^ B := by rw [Int.natAbs_natCast]; exact hg _
    refine natAbs_mono (natAbs_mul_lt ih hl) ?_
    rw [Nat.succ_mul]; omega
theorem dv_bq {f g : List Int} {F B : Nat} (hf : BZ F f) (hg : BZ B g) (N : Nat) : ∀ n, BZ (F + n * (B + 1)) (dvTo f g N n).q
  | 0 => BZ.nil _
  | n + 1 => by
    have ih := dv_bq hf hg N n
    have hr := dv_bd hf hg N n
    show BZ _ (dvStep g (dvTo f g N n) (N - 1 - n)).q
    unfold dvStep
    dsimp only
    have hl : ((((coZ g (g.length - 1)).natAbs : Nat) : Int)).natAbs < 2 ^ B := by rw [Int.natAbs_natCast]; exact hg _
    intro k
    cases k with
    | zero =>
      show (if coZ g (g.length - 1) < 0 then -(coZ (dvTo f g N n).r (N - 1 - n + g.length - 1)) else coZ (dvTo f g N n).r (N - 1 - n + g.length - 1)).natAbs < _
      have := hr (N - 1 - n + g.length - 1)
      refine Nat.lt_of_lt_of_le (m := 2 ^ (F + n * (B + 1))) ?_ (Nat.pow_le_pow_right (by decide) (by rw [Nat.succ_mul]; omega))
      split <;> omega
    | succ k =>
      show (coZ (growZ (dvTo f g N n).q _) k).natAbs < _
      exact natAbs_mono (ih.grow hl k) (by rw [Nat.succ_mul]; omega)
def rdvTo (f : List Int) (n : Int) : Nat → Int
  | 0 => n
  | i + 1 => (Int.gcd (coZ f i) (rdvTo f n i) : Int)
def rdv (f : List Int) (n : Int) : Int := rdvTo f n f.length
theorem rdvTo_dvd (f : List Int) (n : Int) : ∀ i, rdvTo f n i ∣ n ∧ ∀ j, j < i → rdvTo f n i ∣ coZ f j
  | 0 => ⟨Int.dvd_refl _, fun j hj => by omega⟩
  | i + 1 => by
    obtain ⟨h1, h2⟩ := rdvTo_dvd f n i
    have d1 : ((Int.gcd (coZ f i) (rdvTo f n i) : Nat) : Int) ∣ coZ f i := Int.gcd_dvd_left ..
    have d2 : ((Int.gcd (coZ f i) (rdvTo f n i) : Nat) : Int) ∣ rdvTo f n i := Int.gcd_dvd_right ..
    refine ⟨Int.dvd_trans d2 h1, fun j hj => ?_⟩
    by_cases e : j = i
    · rw [e]; exact d1
    · exact Int.dvd_trans d2 (h2 j (by omega))
theorem rdv_dvd (f : List Int) (n : Int) (j : Nat) : rdv f n ∣ coZ f j := by
  by_cases h : j < f.length
  · exact (rdvTo_dvd f n _).2 j h
  · rw [coZ_out (by omega)]; exact Int.dvd_zero _
theorem rdvTo_nn {f : List Int} {n : Int} (h : 0 ≤ n) : ∀ i, 0 ≤ rdvTo f n i
  | 0 => h
  | i + 1 => Int.natCast_nonneg _
def contZ (f : List Int) : List Int := (List.range f.length).map fun j => (coZ f j).fdiv (rdv f 0)
theorem contZ_len (f : List Int) : (contZ f).length = f.length := by unfold contZ; simp
theorem coZ_cont (f : List Int) (k : Nat) : coZ (contZ f) k * rdv f 0 = coZ f k := by
  unfold contZ
  rw [coZ_range]
  split
  · exact Int.fdiv_mul_cancel (rdv_dvd f 0 k)
  · rw [coZ_out (by omega)]; simp
theorem rdv_ne {f : List Int} (h : TrZ f) (hn : f ≠ []) : rdv f 0 ≠ 0 := by
  intro z
  have := rdv_dvd f 0 (f.length - 1)
  rw [z] at this
  rcases h with h | h
  · exact hn h
  · exact h (Int.zero_dvd.mp this)
theorem rdv_pos {f : List Int} (h : TrZ f) (hn : f ≠ []) : 0 < rdv f 0 := by
  have := rdvTo_nn (f := f) (n := 0) (Int.le_refl _) f.length
  have h2 : rdv f 0 ≠ 0 := rdv_ne h hn
  unfold rdv at *
  omega
theorem contZ_tr {f : List Int} (h : TrZ f) : TrZ (contZ f) := by
  rcases h with h | h
  · left; rw [h]; rfl
  · right
    rw [contZ_len]
    intro z
    have := coZ_cont f (f.length - 1)
    rw [z, Int.zero_mul] at this
    exact h this.symm
theorem zP_cont (f : List Int) : zP f = PS.cst (rdv f 0 : Rat) * zP (contZ f) := by
  ext k
  rw [PS.cst_mul, zP_c, zP_c, ← coZ_cont f k, Rat.intCast_mul]; grind
theorem fdiv_abs (x d : Int) (h : d ∣ x) : (x.fdiv d).natAbs ≤ x.natAbs := by
  obtain ⟨k, rfl⟩ := h
  by_cases h0 : d = 0
  · rw [h0, Int.zero_mul]; simp
  · rw [Int.mul_fdiv_cancel_left k h0, Int.natAbs_mul]
    exact Nat.le_mul_of_pos_left _ (by omega)
theorem BZ.cont {m : Nat} {f : List Int} (h : BZ m f) : BZ m (contZ f) := fun k => by
  unfold contZ
  rw [coZ_range]
  split
  · exact Nat.lt_of_le_of_lt (fdiv_abs _ _ (rdv_dvd f 0 k)) (h k)
  · exact Nat.two_pow_pos m
theorem three_pow : ∀ d : Nat, d + 3 ≤ 3 ^ (d + 1)
  | 0 => by decide
  | d + 1 => by have := three_pow d; rw [Nat.pow_succ]; omega
def Pot (M a b C : Nat) : Prop := (M + 1) * 3 ^ (max a (b + 1)) ≤ C
theorem pot_step {M a b b' C : Nat} (h : Pot M a b C) (hb : b' < b) : Pot (M + (a + 1 - b) * (M + 1)) b b' C ∧ M + (a + 1 - b) * (M + 1) + 1 ≤ C / 3 := by
  have key : (M + (a + 1 - b) * (M + 1) + 1) * 3 ^ b ≤ C := by
    refine Nat.le_trans ?_ h
    have e : M + (a + 1 - b) * (M + 1) + 1 = (M + 1) * (a + 1 - b + 1) := by
      generalize a + 1 - b = t
      rw [Nat.mul_succ (M + 1) t, Nat.mul_comm (M + 1) t]; omega
    rw [e, Nat.mul_assoc]
    refine Nat.mul_le_mul_left _ ?_
    by_cases h1 : b + 1 ≤ a
    · rw [Nat.max_eq_left h1]
      have h2 : a = b + (a - b - 1 + 1) := by omega
      conv => rhs; rw [h2, Nat.pow_add, Nat.mul_comm]
      refine Nat.mul_le_mul_right _ ?_
      have := three_pow (a - b - 1)
      omega
    · rw [Nat.max_eq_right (by omega), Nat.pow_succ, Nat.mul_comm]
      refine Nat.mul_le_mul_left _ ?_
      omega
  refine ⟨?_, ?_⟩
  · unfold Pot
    rw [Nat.max_eq_left (by omega)]; exact key
  · rw [Nat.le_div_iff_mul_le (by decide)]
    refine Nat.le_trans (Nat.mul_le_mul_left _ ?_) key
    calc 3 = 3 ^ 1 := rfl
      _ ≤ 3 ^ b := Nat.pow_le_pow_right (by decide) (by omega)
theorem dv_len {f g : List Int} (N : Nat) : ∀ n, (dvTo f g N n).r.length ≤ max f.length (N + g.length)
  | 0 => by show f.length ≤ _; omega
  | n + 1 => by
    have ih := dv_len (f := f) (g := g) N n
    show (sumZ _ _).length ≤ _
    refine Nat.le_trans (sumZ_le _ _) ?_
    rw [growZ_len, shZ_len, growZ_len]
    omega
theorem dv_qlen {f g : List Int} (N : Nat) : ∀ n, (dvTo f g N n).q.length = n
  | 0 => rfl
  | n + 1 => by
    show ([_] ++ growZ _ _).length = _
    rw [List.length_append, growZ_len, dv_qlen N n]; simp; omega
end EM
end

section
set_option Elab.async false
set_option linter.all false
namespace EM
open ShMat
def toR (w : List Int) (s : Int) : Poly := w.map fun (z : Int) => (z : Rat) / (s : Rat)
theorem co_toR (w : List Int) (s : Int) (k : Nat) : co (toR w s) k = (coZ w k : Rat) / (s : Rat) := by
  unfold co coZ toR
  simp only [List.getD_eq_getElem?_getD, List.getElem?_map]
  cases w[k]? with
  | none => show (0 : Rat) = ((0 : Int) : Rat) / _; rw [Rat.div_def]; show (0 : Rat) = (0 : Rat) * _; rw [Rat.zero_mul]
  | some x => rfl
theorem zP_toR {w : List Int} {s : Int} (h : s ≠ 0) : zP w = PS.cst (s : Rat) * toP (toR w s) := by
  ext k
  rw [PS.cst_mul, zP_c, toP_c, co_toR]
  have := cast_ne h
  grind
theorem cst_cancel {s : Int} (h : s ≠ 0) {a b : PS} (e : PS.cst (s : Rat) * a = PS.cst (s : Rat) * b) : a = b := by
  ext k
  have := congrArg (fun p => PS.c p k) e
  simp only [PS.cst_mul] at this
  have h := cast_ne h
  grind
theorem toR_tr {w : List Int} {s : Int} (h : TrZ w) (h0 : s ≠ 0) : Tr (toR w s) := by
  have e : toR w s = smulP (1 / (s : Rat)) (castP w) := by
    unfold smulP castP toR
    rw [List.map_map]
    apply List.map_congr_left
    intro z _
    show _ = 1 / _ * (z : Rat)
    grind
  rw [e]
  refine smul_tr ?_ h.tr
  intro z
  have h1 := cast_ne h0
  have : (1 / (s : Rat)) * (s : Rat) = 1 := by grind
  rw [z, Rat.zero_mul] at this
  exact absurd this (by decide)
theorem toR_eq {w : List Int} {s : Int} {X : Poly} (h : TrZ w) (h0 : s ≠ 0) (hX : Tr X) (e : zP w = PS.cst (s : Rat) * toP X) : toR w s = X := by
  refine (toR_tr h h0).toP_inj hX (cst_cancel h0 ?_)
  rw [← zP_toR h0, e]
theorem toR_nil {w : List Int} {s : Int} : toR w s = [] ↔ w = [] := by unfold toR; exact List.map_eq_nil_iff
def wP (n : Nat) (f : Nat → Rat) : List Int := trimZ ((List.range n).map fun j => whZ f (scT f n) j)
theorem wP_tr (n : Nat) (f : Nat → Rat) : TrZ (wP n f) := trimZ_tr _
theorem wP_zP (n : Nat) (f : Nat → Rat) : zP (wP n f) = PS.cst (((scT f n : Nat) : Int) : Rat) * toP ((List.range n).map f) := by
  ext k
  unfold wP
  rw [PS.cst_mul, zP_trim, zP_c, coZ_range, toP_c, co_range]
  split
  · rename_i h
    rw [whZ_eq f _ k (scT_dvd f n k h), Rat.intCast_natCast]
  · show (0 : Rat) = _; grind
theorem scZ_ne (n : Nat) (f : Nat → Rat) : ((scT f n : Nat) : Int) ≠ 0 := by have := scT_pos f n; omega
theorem wP_toR (n : Nat) (f : Nat → Rat) : toR (wP n f) ((scT f n : Nat) : Int) = trim ((List.range n).map f) :=
  toR_eq (wP_tr n f) (scZ_ne n f) (trim_tr _) (by rw [toP_trim, wP_zP])
theorem wP_len (n : Nat) (f : Nat → Rat) : (wP n f).length ≤ n := by
  have := trimZ_le ((List.range n).map fun j => whZ f (scT f n) j)
  rwa [List.length_map, List.length_range] at this
theorem wP_bd {n k : Nat} {f : Nat → Rat} (h : ∀ i, i < n → Bd k (f i)) : BZ (k + (k * n + 1)) (wP n f) := fun j => by
  unfold wP
  rw [coZ_trim, coZ_range]
  split
  · rename_i hj
    exact whZ_bd (h j hj) (scT_bd f k n fun i hi => (h i hi).2)
  · exact Nat.two_pow_pos _
structure PlOk (w : List Int) (s : Int) : Prop where
  len : w.length ≤ 9
  tr : TrZ w
  bd : BZ 1400 w
  s0 : s ≠ 0
  sb : s.natAbs < 2 ^ 1400
theorem wP_ok {n : Nat} {f : Nat → Rat} (hn : n ≤ 9) (h : ∀ i, i < n → Bd 133 (f i)) : PlOk (wP n f) ((scT f n : Nat) : Int) :=
  ⟨Nat.le_trans (wP_len n f) hn, wP_tr n f, (wP_bd h).mono (by omega), scZ_ne n f, by
    rw [Int.natAbs_natCast]
    exact Nat.lt_of_lt_of_le (scT_bd f 133 n fun i hi => (h i hi).2) (Nat.pow_le_pow_right (by decide) (by omega))⟩
end EM
end

section
set_option Elab.async false
set_option linter.all false
namespace EM
open ShMat
end EM
namespace EM
open ShMat
end EM
end

section
set_option Elab.async false
set_option linter.all false
namespace EM
open ShMat
end EM
end

section
set_option Elab.async false
set_option linter.all false
namespace EM
theorem sq_nonneg (x : Rat) : 0 ≤ x * x := by
  rcases Rat.le_total (a := 0) (b := x) with h | h
  · exact Rat.mul_nonneg h h
  · have h' : 0 ≤ -x := by grind
    have := Rat.mul_nonneg h' h'
    grind
theorem sm_nonneg {n : Nat} {f : Nat → Rat} (h : ∀ i, i < n → 0 ≤ f i) : 0 ≤ sm n f := by
  induction n with
  | zero => exact Rat.le_refl
  | succ n ih =>
    have h1 := ih fun i hi => h i (by omega)
    have h2 := h n (by omega)
    show 0 ≤ sm n f + f n
    grind
theorem sm_eq_zero {n : Nat} {f : Nat → Rat} (h : ∀ i, i < n → 0 ≤ f i) (h0 : sm n f ≤ 0) : ∀ i, i < n → f i = 0 := by
  induction n with
  | zero => intro i hi; omega
  | succ n ih =>
    have h1 : 0 ≤ sm n f := sm_nonneg fun i hi => h i (by omega)
    have h2 := h n (by omega)
    have h3 : sm n f + f n ≤ 0 := h0
    intro i hi
    by_cases e : i = n
    · subst e; grind
    · exact ih (fun i hi => h i (by omega)) (by grind) i (by omega)
theorem sub_len : ∀ (m : Nat) (cs : List Nat), (∀ j, j < m → j ∈ cs) → m ≤ cs.length
  | 0, _, _ => Nat.zero_le _
  | m + 1, cs, h => by
    have hm := h m (by omega)
    have := sub_len m (cs.erase m) (fun j hj => (List.mem_erase_of_ne (by omega)).mpr (h j (by omega)))
    rw [List.length_erase_of_mem hm] at this
    have : 0 < cs.length := List.length_pos_of_mem hm
    omega
/-- fewer equations than unknowns -/
theorem more_unknowns {k m : Nat} (h : k < m) (G : Nat → Nat → Rat) : ∃ x : Nat → Rat, Ker k m G x ∧ ∃ j, j < m ∧ x j ≠ 0 := by
  -- elimination, column by column
  have step : ∀ c, c ≤ m → ∃ (G' : Nat → Nat → Rat) (cs : List Nat), Part k m c G' cs ∧ ∀ x, Ker k m G' x ↔ Ker k m G x := fun c => by
    induction c with
    | zero => intro _; exact ⟨G, [], Part.start k m G, fun _ => Iff.rfl⟩
    | succ c ih =>
      intro hc
      obtain ⟨G', cs, hp, hk⟩ := ih (by omega)
      by_cases hz : ∃ t, cs.length ≤ t ∧ t < k ∧ G' t c ≠ 0
      · obtain ⟨t, h1, h2, h3⟩ := hz
        let σ : Nat → Nat := fun i => if i = cs.length then t else if i = t then cs.length else i
        have hm : Part k m c (fun i => G' (σ i)) cs := hp.move σ (fun i hi => by show (if i = cs.length then t else if i = t then cs.length else i) = i; rw [if_neg (by omega), if_neg (by omega)]) (fun i a b => by show cs.length ≤ (if i = cs.length then t else if i = t then cs.length else i) ∧ (if i = cs.length then t else if i = t then cs.length else i) < k; split <;> (try split) <;> omega)
        have h3' : (fun i => G' (σ i)) cs.length c ≠ 0 := by
          show G' (if cs.length = cs.length then t else _) c ≠ 0
          rw [if_pos rfl]; exact h3
        refine ⟨_, _, hm.pivot (by omega) (by omega) h3', fun x => ?_⟩
        refine (Ker.pivot (G := fun i => G' (σ i)) (k := cs.length) (c := c) (by omega) h3').trans (Iff.trans ?_ (hk x))
        refine Ker.move σ (fun i hi => by show (if i = cs.length then t else if i = t then cs.length else i) < k; split <;> (try split) <;> omega) (fun i hi => ⟨σ i, by show (if i = cs.length then t else if i = t then cs.length else i) < k; split <;> (try split) <;> omega, ?_⟩)
        show (if (if i = cs.length then t else if i = t then cs.length else i) = cs.length then t else if (if i = cs.length then t else if i = t then cs.length else i) = t then cs.length else (if i = cs.length then t else if i = t then cs.length else i)) = i
        split <;> (try split) <;> (try split) <;> (try split) <;> omega
      · exact ⟨G', cs, hp.skip (by omega) (fun i a b => Classical.byContradiction fun z => hz ⟨i, a, b, z⟩), hk⟩
  obtain ⟨G', cs, hp, hk⟩ := step m (Nat.le_refl _)
  -- a column in which no row begins
  have hj : ∃ j, j < m ∧ j ∉ cs := by
    apply Classical.byContradiction
    intro hno
    have hall : ∀ j, j < m → j ∈ cs := fun j hj => Classical.byContradiction fun z => hno ⟨j, hj, z⟩
    have hle : m ≤ cs.length := by
      have := sub_len m cs hall
      exact this
    have := hp.kn
    omega
  obtain ⟨j, hj, hc⟩ := hj
  refine ⟨hit cs G' j, (hk _).mp (hit_ker hp hj hc), j, hj, ?_⟩
  unfold hit
  rw [if_pos rfl]; decide
/-- a form as a sum of squares -/
structure Diag (n : Nat) (q : (Nat → Rat) → Rat) (L : Nat → Nat → Rat) (d : Nat → Rat) : Prop where
  eq : ∀ x, q x = sm n (fun i => d i * (dot n (L i) x * dot n (L i) x))
  inj : ∀ x, (∀ i, i < n → dot n (L i) x = 0) → ∀ j, j < n → x j = 0
def npos (n : Nat) (d : Nat → Rat) : Nat := ((List.range n).filter fun i => decide (0 < d i)).length
def nneg (n : Nat) (d : Nat → Rat) : Nat := ((List.range n).filter fun i => decide (d i < 0)).length
theorem filter_split {α : Type} (p : α → Bool) : ∀ l : List α, (l.filter p).length + (l.filter fun x => !p x).length = l.length
  | [] => rfl
  | x :: l => by
    have := filter_split p l
    rw [List.filter_cons, List.filter_cons]
    cases p x <;> simp <;> omega
theorem npos_le {n : Nat} {q : (Nat → Rat) → Rat} {L L' : Nat → Nat → Rat} {d d' : Nat → Rat} (h : Diag n q L d) (h' : Diag n q L' d') : npos n d ≤ npos n d' := by
  apply Classical.byContradiction
  intro hlt
  have hlt : npos n d' < npos n d := by omega
  let I := (List.range n).filter fun i => !decide (0 < d i)
  let J := (List.range n).filter fun i => decide (0 < d' i)
  have hI : I.length + npos n d = n := by
    have := filter_split (fun i => decide (0 < d i)) (List.range n)
    rw [List.length_range] at this
    show ((List.range n).filter fun i => !decide (0 < d i)).length + npos n d = n
    unfold npos; omega
  have hJ : J.length = npos n d' := rfl
  -- so many equations
  let rows : List (Nat → Rat) := I.map L ++ J.map L'
  have hr : rows.length = I.length + J.length := by show (I.map L ++ J.map L').length = _; rw [List.length_append, List.length_map, List.length_map]
  obtain ⟨x, hx, j, hj, hxj⟩ := more_unknowns (k := rows.length) (m := n) (by omega) (fun i => rows.getD i (fun _ => 0))
  have hmem : ∀ r ∈ rows, dot n r x = 0 := fun r hr => by
    obtain ⟨i, hi, rfl⟩ := List.getElem_of_mem hr
    have := hx i hi
    have e : rows.getD i (fun _ => 0) = rows[i] := by rw [List.getD_eq_getElem?_getD, List.getElem?_eq_getElem hi]; rfl
    rw [← e]; exact this
  have h1 : ∀ i, i < n → ¬ 0 < d i → dot n (L i) x = 0 := fun i hi hn => hmem _ (List.mem_append_left _ (List.mem_map.mpr ⟨i, List.mem_filter.mpr ⟨List.mem_range.mpr hi, by rw [decide_eq_false hn]; rfl⟩, rfl⟩))
  have h2 : ∀ i, i < n → 0 < d' i → dot n (L' i) x = 0 := fun i hi hp => hmem _ (List.mem_append_right _ (List.mem_map.mpr ⟨i, List.mem_filter.mpr ⟨List.mem_range.mpr hi, decide_eq_true hp⟩, rfl⟩))
  -- the form there, both ways
  have e1 := h.eq x
  have e2 := h'.eq x
  have p1 : ∀ i, i < n → 0 ≤ d i * (dot n (L i) x * dot n (L i) x) := fun i hi => by
    by_cases z : 0 < d i
    · exact Rat.mul_nonneg (Rat.le_of_lt z) (sq_nonneg _)
    · rw [h1 i hi z]; grind
  have p2 : 0 ≤ - sm n (fun i => d' i * (dot n (L' i) x * dot n (L' i) x)) := by
    have := sm_nonneg (n := n) (f := fun i => (-1) * (d' i * (dot n (L' i) x * dot n (L' i) x))) (fun i hi => by
      by_cases z : 0 < d' i
      · rw [h2 i hi z]; grind
      · have z' : 0 ≤ - d' i := by grind
        have := Rat.mul_nonneg z' (sq_nonneg (dot n (L' i) x))
        grind)
    rw [sm_mul] at this
    grind
  have z0 := sm_eq_zero p1 (by rw [← e1, e2]; grind)
  have z1 : ∀ i, i < n → dot n (L i) x = 0 := fun i hi => by
    by_cases z : 0 < d i
    · have := z0 i hi
      rcases Rat.mul_eq_zero.mp this with w | w
      · grind
      · rcases Rat.mul_eq_zero.mp w with w | w <;> exact w
    · exact h1 i hi z
  exact hxj (h.inj x z1 j hj)
theorem Diag.neg {n : Nat} {q : (Nat → Rat) → Rat} {L : Nat → Nat → Rat} {d : Nat → Rat} (h : Diag n q L d) : Diag n (fun x => - q x) L (fun i => - d i) := by
  refine ⟨fun x => ?_, h.inj⟩
  rw [h.eq x]
  have := sm_mul n (-1) (fun i => d i * (dot n (L i) x * dot n (L i) x))
  have e : sm n (fun i => - d i * (dot n (L i) x * dot n (L i) x)) = sm n (fun i => (-1) * (d i * (dot n (L i) x * dot n (L i) x))) := sm_congr fun i _ => by grind
  rw [e, this]; grind
theorem nneg_eq (n : Nat) (d : Nat → Rat) : nneg n d = npos n (fun i => - d i) := by
  unfold nneg npos
  congr 1
  apply List.filter_congr
  intro i _
  exact decide_eq_decide.mpr (by constructor <;> intro h <;> grind)
/-- **the law of inertia** -/
theorem inertia {n : Nat} {q : (Nat → Rat) → Rat} {L L' : Nat → Nat → Rat} {d d' : Nat → Rat} (h : Diag n q L d) (h' : Diag n q L' d') : npos n d = npos n d' ∧ nneg n d = nneg n d' :=
  ⟨Nat.le_antisymm (npos_le h h') (npos_le h' h), by
    rw [nneg_eq, nneg_eq]
    exact Nat.le_antisymm (npos_le h.neg h'.neg) (npos_le h'.neg h.neg)⟩
end EM
end

section
set_option Elab.async false
set_option linter.all false
namespace EM
open ShMat
def ls : List Nat → (Nat → Rat) → Rat
  | [], _ => 0
  | i :: l, f => f i + ls l f
theorem ls_congr {l : List Nat} {f g : Nat → Rat} (h : ∀ i ∈ l, f i = g i) : ls l f = ls l g := by
  induction l with
  | nil => rfl
  | cons i l ih => show f i + ls l f = g i + ls l g; rw [h i (by simp), ih fun j hj => h j (by simp [hj])]
theorem ls_add (l : List Nat) (f g : Nat → Rat) : ls l (fun i => f i + g i) = ls l f + ls l g := by
  induction l with
  | nil => show (0 : Rat) = 0 + 0; grind
  | cons i l ih => show f i + g i + ls l _ = (f i + ls l f) + (g i + ls l g); rw [ih]; grind
theorem ls_mul (l : List Nat) (k : Rat) (f : Nat → Rat) : ls l (fun i => k * f i) = k * ls l f := by
  induction l with
  | nil => show (0 : Rat) = k * 0; grind
  | cons i l ih => show k * f i + ls l _ = k * (f i + ls l f); rw [ih]; grind
theorem ls_zero {l : List Nat} {f : Nat → Rat} (h : ∀ i ∈ l, f i = 0) : ls l f = 0 := by
  induction l with
  | nil => rfl
  | cons i l ih => show f i + ls l f = 0; rw [h i (by simp), ih fun j hj => h j (by simp [hj])]; grind
theorem ls_erase {l : List Nat} {i : Nat} (h : i ∈ l) (f : Nat → Rat) : ls l f = f i + ls (l.erase i) f := by
  induction l with
  | nil => simp at h
  | cons j l ih =>
    by_cases e : j = i
    · subst e; rw [List.erase_cons_head]; rfl
    · rw [List.erase_cons_tail (by simpa using e)]
      have hm : i ∈ l := by
        rcases List.mem_cons.mp h with z | z
        · exact absurd z.symm e
        · exact z
      show f j + ls l f = f i + (f j + ls (l.erase i) f)
      rw [ih hm]; grind
def quadL (l : List Nat) (S : Nat → Nat → Rat) (x : Nat → Rat) : Rat := ls l fun i => ls l fun j => S i j * (x i * x j)
/-- rows and columns that are 0 may go -/
theorem quadL_drop {l : List Nat} {S : Nat → Nat → Rat} {i : Nat} (hi : i ∈ l) (h1 : ∀ j ∈ l, S i j = 0) (h2 : ∀ j ∈ l, S j i = 0) (x : Nat → Rat) : quadL l S x = quadL (l.erase i) S x := by
  unfold quadL
  rw [ls_erase hi, ls_zero (fun j hj => by rw [h1 j hj]; grind), Rat.zero_add]
  apply ls_congr
  intro k hk
  rw [ls_erase hi, h2 k (List.mem_of_mem_erase hk)]; grind
theorem quadL_sub (l : List Nat) (S : Nat → Nat → Rat) (u v : Nat → Rat) (t : Rat) (x : Nat → Rat) : quadL l (fun k m => S k m - t * (u k * v m)) x = quadL l S x - t * (ls l (fun k => u k * x k) * ls l (fun m => v m * x m)) := by
  unfold quadL
  have e : (fun i => ls l fun j => (S i j - t * (u i * v j)) * (x i * x j)) = fun i => (ls l fun j => S i j * (x i * x j)) + (-(t * ls l (fun m => v m * x m))) * (u i * x i) := by
    funext i
    have : (fun j => (S i j - t * (u i * v j)) * (x i * x j)) = fun j => S i j * (x i * x j) + (-(t * (u i * x i))) * (v j * x j) := by funext j; grind
    rw [this, ls_add, ls_mul]; grind
  rw [e, ls_add, ls_mul]; grind
/-- what is left of a form, and the squares taken out -/
structure Left (n : Nat) (q : (Nat → Rat) → Rat) (l : List Nat) (S : Nat → Nat → Rat) (fs : List ((Nat → Rat) × Rat)) : Prop where
  nd : l.Nodup
  lt : ∀ i ∈ l, i < n
  sym : ∀ i ∈ l, ∀ j ∈ l, S i j = S j i
  len : fs.length + l.length = n
  eq : ∀ x, q x = fs.foldr (fun p s => p.2 * (dot n p.1 x * dot n p.1 x) + s) 0 + quadL l S x
  inj : ∀ x, (∀ p ∈ fs, dot n p.1 x = 0) → (∀ i ∈ l, x i = 0) → ∀ j, j < n → x j = 0
theorem dot_ls {n : Nat} {l : List Nat} (nd : l.Nodup) (lt : ∀ i ∈ l, i < n) (f x : Nat → Rat) : dot n (fun j => if j ∈ l then f j else 0) x = ls l (fun j => f j * x j) := by
  induction l with
  | nil =>
    unfold dot
    rw [sm_zero (fun j _ => by simp)]; rfl
  | cons i l ih =>
    have hn := List.nodup_cons.mp nd
    have hi : i < n := lt i (by simp)
    show _ = f i * x i + ls l _
    rw [← ih hn.2 (fun j hj => lt j (by simp [hj]))]
    unfold dot
    have e : sm n (fun j => (if j ∈ i :: l then f j else 0) * x j) = sm n (fun j => (if j = i then f i * x i else 0) + (if j ∈ l then f j else 0) * x j) := sm_congr fun j _ => by
      by_cases z : j = i
      · subst z; simp [hn.1]; grind
      · simp [z]; grind
    rw [e, sm_add, sm_one hi (fun j _ ne => if_neg ne), if_pos rfl]
theorem Left.one {n : Nat} {q : (Nat → Rat) → Rat} {l : List Nat} {S : Nat → Nat → Rat} {fs : List ((Nat → Rat) × Rat)} (h : Left n q l S fs) {i : Nat} (hi : i ∈ l) (hd : S i i ≠ 0) :
    Left n q (l.erase i) (fun k m => S k m - S k i * S i m / S i i) ((fun j => if j ∈ l then S i j / S i i else 0, S i i) :: fs) := by
  have sub : ∀ j ∈ l.erase i, j ∈ l := fun j hj => List.mem_of_mem_erase hj
  have hln : (l.erase i).length = l.length - 1 := List.length_erase_of_mem hi
  have hpos : 0 < l.length := List.length_pos_of_mem hi
  refine ⟨h.nd.erase i, fun j hj => h.lt j (sub j hj), fun k hk m hm => ?_, by rw [List.length_cons, hln]; have := h.len; omega, fun x => ?_, fun x hf hx => ?_⟩
  · rw [h.sym k (sub k hk) m (sub m hm), h.sym k (sub k hk) i hi, h.sym i hi m (sub m hm), Rat.mul_comm]
  · have d1 : dot n (fun j => if j ∈ l then S i j / S i i else 0) x = ls l (fun j => S i j * x j) / S i i := by
      rw [dot_ls h.nd h.lt]
      have e : (fun j => S i j / S i i * x j) = fun j => (1 / S i i) * (S i j * x j) := by funext j; rw [Rat.div_def, Rat.div_def]; grind
      rw [e, ls_mul, Rat.div_def, Rat.div_def]; grind
    have e1 : quadL (l.erase i) (fun k m => S k m - S k i * S i m / S i i) x = quadL l (fun k m => S k m - S k i * S i m / S i i) x := by
      refine (quadL_drop hi (fun j hj => ?_) (fun j hj => ?_) x).symm
      · show S i j - S i i * S i j / S i i = 0
        rw [Rat.div_def]
        have := Rat.mul_inv_cancel _ hd
        grind
      · show S j i - S j i * S i i / S i i = 0
        rw [Rat.div_def]
        have := Rat.mul_inv_cancel _ hd
        grind
    have e2 : quadL l (fun k m => S k m - S k i * S i m / S i i) x = quadL l S x - (1 / S i i) * (ls l (fun k => S k i * x k) * ls l (fun m => S i m * x m)) := by
      rw [← quadL_sub]
      congr 1; funext k m
      rw [Rat.div_def, Rat.div_def]; grind
    have e3 : ls l (fun k => S k i * x k) = ls l (fun m => S i m * x m) := ls_congr fun k hk => by rw [h.sym k hk i hi]
    rw [List.foldr_cons, d1, e1, e2, e3, h.eq x]
    dsimp only
    rw [Rat.div_def, Rat.div_def]
    have := Rat.mul_inv_cancel _ hd
    generalize (S i i)⁻¹ = w at *
    grind
  · have h0 := hf _ (.head _)
    dsimp only at h0
    rw [dot_ls h.nd h.lt, ls_erase hi, ls_zero (fun j hj => by rw [hx j hj]; grind)] at h0
    have hxi : x i = 0 := by
      rw [Rat.div_def, Rat.mul_inv_cancel _ hd] at h0
      grind
    refine h.inj x (fun p hp => hf p (.tail _ hp)) (fun j hj => ?_)
    by_cases e : j = i
    · rw [e]; exact hxi
    · exact hx j ((List.mem_erase_of_ne e).mpr hj)
theorem Left.two {n : Nat} {q : (Nat → Rat) → Rat} {l : List Nat} {S : Nat → Nat → Rat} {fs : List ((Nat → Rat) × Rat)} (h : Left n q l S fs) {i j : Nat} (hi : i ∈ l) (hj : j ∈ l) (hij : i ≠ j) (zi : S i i = 0) (zj : S j j = 0) (hb : S i j ≠ 0) :
    Left n q ((l.erase i).erase j) (fun k m => S k m - (S k i * S j m + S k j * S i m) / S i j) ((fun t => if t ∈ l then S i t + S j t else 0, 1 / (2 * S i j)) :: (fun t => if t ∈ l then S i t - S j t else 0, - (1 / (2 * S i j))) :: fs) := by
  have hj' : j ∈ l.erase i := (List.mem_erase_of_ne (fun z => hij z.symm)).mpr hj
  have sub1 : ∀ t ∈ l.erase i, t ∈ l := fun t ht => List.mem_of_mem_erase ht
  have sub : ∀ t ∈ (l.erase i).erase j, t ∈ l := fun t ht => sub1 t (List.mem_of_mem_erase ht)
  have l1 : (l.erase i).length = l.length - 1 := List.length_erase_of_mem hi
  have l2 : ((l.erase i).erase j).length = (l.erase i).length - 1 := List.length_erase_of_mem hj'
  have p1 : 0 < (l.erase i).length := List.length_pos_of_mem hj'
  have sji : S j i = S i j := h.sym j hj i hi
  have w1 := Rat.mul_inv_cancel _ hb
  refine ⟨(h.nd.erase i).erase j, fun t ht => h.lt t (sub t ht), fun k hk m hm => ?_, by simp only [List.length_cons]; have := h.len; omega, fun x => ?_, fun x hf hx => ?_⟩
  · rw [h.sym k (sub k hk) m (sub m hm), h.sym k (sub k hk) i hi, h.sym k (sub k hk) j hj, h.sym i hi m (sub m hm), h.sym j hj m (sub m hm)]
    congr 2; grind
  · have d1 : dot n (fun t => if t ∈ l then S i t + S j t else 0) x = ls l (fun t => S i t * x t) + ls l (fun t => S j t * x t) := by
      rw [dot_ls h.nd h.lt, ← ls_add]; exact ls_congr fun t _ => by grind
    have d2 : dot n (fun t => if t ∈ l then S i t - S j t else 0) x = ls l (fun t => S i t * x t) - ls l (fun t => S j t * x t) := by
      rw [dot_ls h.nd h.lt]
      have e : (fun t => (S i t - S j t) * x t) = fun t => S i t * x t + (-1) * (S j t * x t) := by funext t; grind
      rw [e, ls_add, ls_mul]; grind
    have e1 : quadL ((l.erase i).erase j) (fun k m => S k m - (S k i * S j m + S k j * S i m) / S i j) x = quadL l (fun k m => S k m - (S k i * S j m + S k j * S i m) / S i j) x := by
      rw [quadL_drop hi (fun m hm => ?_) (fun k hk => ?_) x, quadL_drop hj' (fun m hm => ?_) (fun k hk => ?_) x]
      · show S j m - (S j i * S j m + S j j * S i m) / S i j = 0
        rw [zj, sji, Rat.div_def]; grind
      · show S k j - (S k i * S j j + S k j * S i j) / S i j = 0
        rw [zj, Rat.div_def]; grind
      · show S i m - (S i i * S j m + S i j * S i m) / S i j = 0
        rw [zi, Rat.div_def]; grind
      · show S k i - (S k i * S j i + S k j * S i i) / S i j = 0
        rw [zi, sji, Rat.div_def]; grind
    have e2 : quadL l (fun k m => S k m - (S k i * S j m + S k j * S i m) / S i j) x = quadL l S x - (S i j)⁻¹ * (ls l (fun k => S k i * x k) * ls l (fun m => S j m * x m)) - (S i j)⁻¹ * (ls l (fun k => S k j * x k) * ls l (fun m => S i m * x m)) := by
      have e : (fun k m => S k m - (S k i * S j m + S k j * S i m) / S i j) = fun k m => (S k m - (S i j)⁻¹ * (S k i * S j m)) - (S i j)⁻¹ * (S k j * S i m) := by funext k m; rw [Rat.div_def]; grind
      rw [e, quadL_sub l (fun k m => S k m - (S i j)⁻¹ * (S k i * S j m)) (fun k => S k j) (fun m => S i m), quadL_sub l S (fun k => S k i) (fun m => S j m)]
    have e3 : ls l (fun k => S k i * x k) = ls l (fun m => S i m * x m) := ls_congr fun k hk => by rw [h.sym k hk i hi]
    have e4 : ls l (fun k => S k j * x k) = ls l (fun m => S j m * x m) := ls_congr fun k hk => by rw [h.sym k hk j hj]
    rw [List.foldr_cons, List.foldr_cons, e1, e2, e3, e4, h.eq x]
    dsimp only
    rw [d1, d2]
    have e5 : (1 : Rat) / (2 * S i j) = (1 / 2) * (S i j)⁻¹ := by
      have h2 : (2 : Rat) ≠ 0 := by decide
      have h3 : (2 : Rat) * S i j ≠ 0 := fun z => by
        rcases Rat.mul_eq_zero.mp z with z | z
        · exact h2 z
        · exact hb z
      have h4 := Rat.mul_inv_cancel _ h3
      have h5 := Rat.mul_inv_cancel _ h2
      rw [Rat.div_def, Rat.div_def, Rat.one_mul, Rat.one_mul]
      generalize ((2 : Rat) * S i j)⁻¹ = y at *
      generalize (S i j)⁻¹ = w at *
      grind
    rw [e5]
    generalize (S i j)⁻¹ = w
    generalize ls l (fun t => S i t * x t) = u
    generalize ls l (fun t => S j t * x t) = v
    generalize quadL l S x = Q
    generalize List.foldr (fun p s => p.2 * (dot n p.1 x * dot n p.1 x) + s) 0 fs = F
    grind
  · have h1 := hf _ (.head _)
    have h2 := hf _ (.tail _ (.head _))
    dsimp only at h1 h2
    rw [dot_ls h.nd h.lt, ls_erase hi, ls_erase hj', ls_zero (fun t ht => by rw [hx t ht]; grind)] at h1 h2
    have hxi : x i = 0 ∧ x j = 0 := by
      rw [zi, zj, sji] at h1 h2
      have a1 : S i j * (x j + x i) = 0 := by grind
      have a2 : S i j * (x j - x i) = 0 := by grind
      rcases Rat.mul_eq_zero.mp a1 with z | z
      · exact absurd z hb
      · rcases Rat.mul_eq_zero.mp a2 with z' | z'
        · exact absurd z' hb
        · constructor <;> grind
    refine h.inj x (fun p hp => hf p (.tail _ (.tail _ hp))) (fun t ht => ?_)
    by_cases e : t = i
    · rw [e]; exact hxi.1
    · by_cases e' : t = j
      · rw [e']; exact hxi.2
      · exact hx t ((List.mem_erase_of_ne e').mpr ((List.mem_erase_of_ne e).mpr ht))
end EM
end

section
set_option Elab.async false
set_option linter.all false
namespace EM
open ShMat
def cntP (fs : List ((Nat → Rat) × Rat)) : Nat := (fs.filter fun p => decide (0 < p.2)).length
def cntN (fs : List ((Nat → Rat) × Rat)) : Nat := (fs.filter fun p => decide (p.2 < 0)).length
theorem Left.start {n : Nat} {A : Nat → Nat → Rat} (hs : ∀ i, i < n → ∀ j, j < n → A i j = A j i) : Left n (quadL (List.range n) A) (List.range n) A [] :=
  ⟨List.nodup_range, fun i hi => List.mem_range.mp hi, fun i hi j hj => hs i (List.mem_range.mp hi) j (List.mem_range.mp hj), by simp, fun x => by show _ = (0 : Rat) + _; grind, fun x _ hx j hj => hx j (List.mem_range.mpr hj)⟩
/-- nothing is left but zeros -/
theorem Left.none {n : Nat} {q : (Nat → Rat) → Rat} {l : List Nat} {S : Nat → Nat → Rat} {fs : List ((Nat → Rat) × Rat)} (h : Left n q l S fs) (hz : ∀ i ∈ l, ∀ j ∈ l, S i j = 0) : Left n q [] S (l.map (fun i => ((fun t => if t = i then 1 else 0), 0)) ++ fs) := by
  have fold : ∀ (l : List Nat) (x : Nat → Rat) (s : Rat), (l.map (fun i => (((fun t => if t = i then 1 else 0) : Nat → Rat), (0 : Rat)))).foldr (fun p s => p.2 * (dot n p.1 x * dot n p.1 x) + s) s = s := fun l x s => by
    induction l with
    | nil => rfl
    | cons i l ih => rw [List.map_cons, List.foldr_cons, ih]; dsimp only; grind
  have hd : ∀ i, i < n → ∀ x, dot n (fun t => if t = i then 1 else 0) x = x i := fun i hi x => by
    unfold dot
    rw [sm_one hi (fun j _ ne => by show (if j = i then (1 : Rat) else 0) * x j = 0; rw [if_neg ne]; grind)]
    show (if i = i then (1 : Rat) else 0) * x i = x i
    rw [if_pos rfl]; grind
  refine ⟨.nil, by simp, by simp, by rw [List.length_append, List.length_map]; have := h.len; simp; omega, fun x => ?_, fun x hf _ => ?_⟩
  · rw [List.foldr_append, fold, h.eq x]
    have : quadL l S x = 0 := ls_zero fun i hi => ls_zero fun j hj => by rw [hz i hi j hj]; grind
    rw [this]; rfl
  · refine h.inj x (fun p hp => hf p (List.mem_append_right _ hp)) fun i hi => ?_
    have := hf _ (List.mem_append_left _ (List.mem_map.mpr ⟨i, hi, rfl⟩))
    rw [hd i (h.lt i hi)] at this
    exact this
/-- squares alone: a Diag -/
theorem Left.diag {n : Nat} {q : (Nat → Rat) → Rat} {S : Nat → Nat → Rat} {fs : List ((Nat → Rat) × Rat)} (h : Left n q [] S fs) : ∃ L d, Diag n q L d ∧ npos n d = cntP fs ∧ nneg n d = cntN fs := by
  have hl : fs.length = n := by simpa using h.len
  have fold : ∀ (fs : List ((Nat → Rat) × Rat)) (F : (Nat → Rat) × Rat → Rat), fs.foldr (fun p s => F p + s) 0 = sm fs.length (fun i => F (fs.getD i (fun _ => 0, 0))) := fun fs F => by
    have first : ∀ (m : Nat) (G : Nat → Rat), sm (m + 1) G = G 0 + sm m (fun i => G (i + 1)) := fun m G => by
      induction m with
      | zero => show (0 : Rat) + G 0 = G 0 + 0; grind
      | succ m ih => show sm (m + 1) G + G (m + 1) = G 0 + (sm m _ + G (m + 1)); rw [ih]; grind
    induction fs with
    | nil => rfl
    | cons p fs ih => rw [List.foldr_cons, ih, List.length_cons, first]; rfl
  have cnt : ∀ (fs : List ((Nat → Rat) × Rat)) (P : Rat → Bool), ((List.range fs.length).filter fun i => P (fs.getD i (fun _ => 0, 0)).2).length = (fs.filter fun p => P p.2).length := fun fs P => by
    induction fs with
    | nil => rfl
    | cons p fs ih =>
      rw [List.length_cons, List.range_succ_eq_map, List.filter_cons, List.filter_cons, List.filter_map]
      have e : (List.filter ((fun i => P ((p :: fs).getD i (fun _ => 0, 0)).2) ∘ Nat.succ) (List.range fs.length)).length = (fs.filter fun p => P p.2).length := by rw [← ih]; rfl
      by_cases z : P p.2 = true
      · rw [if_pos (show P ((p :: fs).getD 0 (fun _ => 0, 0)).2 = true from z), if_pos z, List.length_cons, List.length_map, e]; rfl
      · rw [if_neg (show ¬ P ((p :: fs).getD 0 (fun _ => 0, 0)).2 = true from z), if_neg z, List.length_map, e]
  refine ⟨fun i => (fs.getD i (fun _ => 0, 0)).1, fun i => (fs.getD i (fun _ => 0, 0)).2, ⟨fun x => ?_, fun x hx j hj => ?_⟩, ?_, ?_⟩
  · rw [h.eq x, fold fs (fun p => p.2 * (dot n p.1 x * dot n p.1 x)), hl]
    show _ + (0 : Rat) = _
    rw [Rat.add_zero]
  · refine h.inj x (fun p hp => ?_) (by simp) j hj
    obtain ⟨i, hi, rfl⟩ := List.getElem_of_mem hp
    have := hx i (by omega)
    rw [getD_at _ _ hi] at this
    exact this
  · unfold npos cntP
    rw [← hl]; exact cnt fs (fun r => decide (0 < r))
  · unfold nneg cntN
    rw [← hl]; exact cnt fs (fun r => decide (r < 0))
def skp (i k : Nat) : Nat := if k < i then k else k + 1
theorem eraseIdx_get {α : Type} {l : List α} {i k : Nat} : (l.eraseIdx i)[k]? = l[skp i k]? := by
  rw [List.getElem?_eraseIdx]; unfold skp; split <;> rfl
theorem erase_ix : ∀ {l : List Nat} {i : Nat} (hi : i < l.length), l.Nodup → l.erase l[i] = l.eraseIdx i
  | x :: l, 0, _, _ => by simp
  | x :: l, i + 1, hi, nd => by
    have hn := List.nodup_cons.mp nd
    have hi' : i < l.length := by simpa using hi
    have ne : x ≠ l[i] := fun z => hn.1 (by rw [z]; exact List.getElem_mem hi')
    show (x :: l).erase l[i] = x :: l.eraseIdx i
    rw [List.erase_cons_tail (by simpa using ne), erase_ix hi' hn.2]
structure Sq (a : Mat) (m : Nat) : Prop where
  len : a.length = m
  row : ∀ r ∈ a, r.length = m
theorem without_sq {a : Mat} {m i : Nat} (h : Sq a m) (hi : i < m) : Sq (without a i) (m - 1) := by
  refine ⟨by unfold without; rw [List.length_map, List.length_eraseIdx_of_lt (by rw [h.len]; exact hi), h.len], fun r hr => ?_⟩
  unfold without at hr
  obtain ⟨s, hs, rfl⟩ := List.mem_map.mp hr
  have := h.row s (List.mem_of_mem_eraseIdx hs)
  rw [List.length_eraseIdx_of_lt (by omega), this]
theorem without_at {a : Mat} {m i k t : Nat} (h : Sq a m) (hi : i < m) (hk : k < m - 1) : at_ (without a i) k t = at_ a (skp i k) (skp i t) := by
  have hs : skp i k < a.length := by rw [h.len]; unfold skp; split <;> omega
  unfold at_ without
  simp only [List.getD_eq_getElem?_getD, List.getElem?_map]
  rw [eraseIdx_get, List.getElem?_eq_getElem hs]
  simp only [Option.map_some, Option.getD_some]
  rw [eraseIdx_get]
theorem make_sq (m : Nat) (f : Nat → Nat → Rat) : Sq (make m m f) m := ⟨make_len m m f, make_row⟩
theorem skp_lt {m i k : Nat} (hi : i < m) (hk : k < m - 1) : skp i k < m := by unfold skp; split <;> omega
theorem beginOf_zero {r : List Rat} (h : (beginOf r).isSome = false) : ∀ t, r.getD t 0 = 0 := by
  intro t
  have h : beginOf r = none := by cases e : beginOf r with | none => rfl | some _ => rw [e] at h; cases h
  unfold beginOf at h
  rw [List.findIdx?_eq_none_iff] at h
  by_cases ht : t < r.length
  · rw [getD_at _ _ ht]
    have := h _ (List.getElem_mem ht)
    simpa using this
  · rw [List.getD_eq_getElem?_getD, List.getElem?_eq_none (by omega)]; rfl
theorem signsFrom_left {n : Nat} {q : (Nat → Rat) → Rat} : ∀ (fuel : Nat) (a : Mat) (l : List Nat) (S : Nat → Nat → Rat) (fs : List ((Nat → Rat) × Rat)), Left n q l S fs → l.length ≤ fuel → Sq a l.length → (∀ k m (hk : k < l.length) (hm : m < l.length), at_ a k m = S l[k] l[m]) →
    ∃ S' fs', Left n q [] S' fs' ∧ cntP fs' = cntP fs + (signsFrom fuel a).1 ∧ cntN fs' = cntN fs + (signsFrom fuel a).2.1 ∧ (signsFrom fuel a).1 + (signsFrom fuel a).2.1 + (signsFrom fuel a).2.2 = l.length
  | 0, a, l, S, fs, h, hl, hq, hat => by
    have e : l = [] := List.length_eq_zero_iff.mp (by omega)
    subst e
    exact ⟨S, fs, h, rfl, rfl, rfl⟩
  | fuel + 1, a, l, S, fs, h, hl, hq, hat => by
    have hrows : rows a = l.length := hq.len
    unfold signsFrom
    split
    · rename_i i hf
      have hi : i < l.length := by
        have := List.mem_of_find?_eq_some hf
        rw [hrows] at this; exact List.mem_range.mp this
      have hd0 : at_ a i i ≠ 0 := by
        have := List.find?_some hf
        simpa using this
      have hSd : S l[i] l[i] ≠ 0 := by rw [← hat i i hi hi]; exact hd0
      dsimp only
      rw [hrows]
      have h1 := h.one (List.getElem_mem hi) hSd
      rw [erase_ix hi h.nd] at h1
      have le : (l.eraseIdx i).length = l.length - 1 := List.length_eraseIdx_of_lt hi
      have msq := make_sq l.length (fun k m => at_ a k m - at_ a k i * at_ a i m / at_ a i i)
      have hat' : ∀ k m (hk : k < (l.eraseIdx i).length) (hm : m < (l.eraseIdx i).length), at_ (without (make l.length l.length fun k m => at_ a k m - at_ a k i * at_ a i m / at_ a i i) i) k m = S (l.eraseIdx i)[k] (l.eraseIdx i)[m] - S (l.eraseIdx i)[k] l[i] * S l[i] (l.eraseIdx i)[m] / S l[i] l[i] := fun k m hk hm => by
        have hk' := skp_lt hi (show k < l.length - 1 by omega)
        have hm' := skp_lt hi (show m < l.length - 1 by omega)
        have ek : (l.eraseIdx i)[k] = l[skp i k] := by
          have := eraseIdx_get (l := l) (i := i) (k := k)
          rw [List.getElem?_eq_getElem hk, List.getElem?_eq_getElem hk'] at this
          exact Option.some.inj this
        have em : (l.eraseIdx i)[m] = l[skp i m] := by
          have := eraseIdx_get (l := l) (i := i) (k := m)
          rw [List.getElem?_eq_getElem hm, List.getElem?_eq_getElem hm'] at this
          exact Option.some.inj this
        rw [without_at msq hi (by omega), at_make hk' hm', hat _ _ hk' hm', hat _ _ hk' hi, hat _ _ hi hm', hat _ _ hi hi, ek, em]
      have hsq' : Sq (without (make l.length l.length fun k m => at_ a k m - at_ a k i * at_ a i m / at_ a i i) i) (l.eraseIdx i).length := by rw [le]; exact without_sq msq hi
      obtain ⟨S', fs', g1, g2, g3, g4⟩ := signsFrom_left fuel _ (l.eraseIdx i) _ _ h1 (by omega) hsq' hat'
      refine ⟨S', fs', g1, ?_⟩
      generalize signsFrom fuel (without (make l.length l.length fun k m => at_ a k m - at_ a k i * at_ a i m / at_ a i i) i) = r at g2 g3 g4 ⊢
      rw [hat i i hi hi]
      have cP : cntP ((fun j => if j ∈ l then S l[i] j / S l[i] l[i] else 0, S l[i] l[i]) :: fs) = cntP fs + (if 0 < S l[i] l[i] then 1 else 0) := by
        unfold cntP
        rw [List.filter_cons]
        by_cases z : 0 < S l[i] l[i]
        · rw [if_pos (decide_eq_true z), if_pos z]; rfl
        · rw [if_neg (by rw [decide_eq_false z]; decide), if_neg z]; rfl
      have cN : cntN ((fun j => if j ∈ l then S l[i] j / S l[i] l[i] else 0, S l[i] l[i]) :: fs) = cntN fs + (if 0 < S l[i] l[i] then 0 else 1) := by
        unfold cntN
        rw [List.filter_cons]
        by_cases z : 0 < S l[i] l[i]
        · rw [if_neg (by rw [decide_eq_false (by grind)]; decide), if_pos z]; rfl
        · rw [if_pos (decide_eq_true (by grind)), if_neg z]; rfl
      rw [cP] at g2
      rw [cN] at g3
      by_cases z : 0 < S l[i] l[i]
      · rw [if_pos z] at g2 g3 ⊢
        dsimp only
        exact ⟨by omega, by omega, by omega⟩
      · rw [if_neg z] at g2 g3 ⊢
        dsimp only
        exact ⟨by omega, by omega, by omega⟩
    · rename_i hf
      have hdiag : ∀ i (hi : i < l.length), S l[i] l[i] = 0 := fun i hi => by
        have := List.find?_eq_none.mp hf i (by rw [hrows]; exact List.mem_range.mpr hi)
        rw [← hat i i hi hi]
        simpa using this
      split
      · rename_i hg
        have hz := List.findIdx?_eq_none_iff.mp hg
        have h0 := h.none (fun i hi j hj => by
          obtain ⟨k, hk, rfl⟩ := List.getElem_of_mem hi
          obtain ⟨m, hm, rfl⟩ := List.getElem_of_mem hj
          have hk' : k < a.length := by rw [hq.len]; exact hk
          rw [← hat k m hk hm, at_get hk']
          exact beginOf_zero (hz _ (List.getElem_mem hk')) m)
        refine ⟨S, _, h0, ?_, ?_, by show 0 + 0 + rows a = _; omega⟩
        · unfold cntP
          rw [List.filter_append, List.length_append]
          have : (List.filter (fun p => decide (0 < p.2)) (l.map fun i => (((fun t => if t = i then 1 else 0) : Nat → Rat), (0 : Rat)))) = [] := by
            rw [List.filter_eq_nil_iff]
            intro p hp
            obtain ⟨i, _, rfl⟩ := List.mem_map.mp hp
            simp
          rw [this]; show 0 + _ = _ + 0; omega
        · unfold cntN
          rw [List.filter_append, List.length_append]
          have : (List.filter (fun p => decide (p.2 < 0)) (l.map fun i => (((fun t => if t = i then 1 else 0) : Nat → Rat), (0 : Rat)))) = [] := by
            rw [List.filter_eq_nil_iff]
            intro p hp
            obtain ⟨i, _, rfl⟩ := List.mem_map.mp hp
            simp
          rw [this]; show 0 + _ = _ + 0; omega
      · rename_i i hg
        obtain ⟨hi0, hsome, _⟩ := List.findIdx?_eq_some_iff_getElem.mp hg
        have hi : i < l.length := by rw [← hq.len]; exact hi0
        rw [getD_at _ _ hi0]
        obtain ⟨j, hj⟩ : ∃ j, beginOf a[i] = some j := Option.isSome_iff_exists.mp hsome
        have hjl : j < a[i].length ∧ a[i].getD j 0 ≠ 0 := by
          unfold beginOf at hj
          obtain ⟨b1, b2, _⟩ := List.findIdx?_eq_some_iff_getElem.mp hj
          exact ⟨b1, by rw [getD_at _ _ b1]; simpa using b2⟩
        have hj' : j < l.length := by have := hq.row _ (List.getElem_mem hi0); omega
        have hb : at_ a i j ≠ 0 := by rw [at_get hi0]; exact hjl.2
        have hSb : S l[i] l[j] ≠ 0 := by rw [← hat i j hi hj']; exact hb
        have hij : i ≠ j := fun z => by subst z; exact hSb (hdiag i hi)
        have hne : l[i] ≠ l[j] := fun z => hij ((List.getElem_inj h.nd).mp z)
        rw [hj]
        dsimp only [Option.getD_some]
        rw [hrows]
        have h2 := h.two (List.getElem_mem hi) (List.getElem_mem hj') hne (hdiag i hi) (hdiag j hj') hSb
        -- the two places go, the greater one first
        have el : (l.erase l[i]).erase l[j] = (l.eraseIdx (max i j)).eraseIdx (min i j) := by
          rcases Nat.lt_or_gt_of_ne hij with z | z
          · rw [List.erase_comm, erase_ix hj' h.nd, Nat.max_eq_right (by omega), Nat.min_eq_left (by omega)]
            have hlt : i < (l.eraseIdx j).length := by rw [List.length_eraseIdx_of_lt hj']; omega
            have e : (l.eraseIdx j)[i] = l[i] := by
              have := eraseIdx_get (l := l) (i := j) (k := i)
              rw [List.getElem?_eq_getElem hlt, show skp j i = i by unfold skp; rw [if_pos z], List.getElem?_eq_getElem hi] at this
              exact Option.some.inj this
            rw [← e, erase_ix hlt (h.nd.sublist (List.eraseIdx_sublist _ _))]
          · rw [erase_ix hi h.nd, Nat.max_eq_left (by omega), Nat.min_eq_right (by omega)]
            have hlt : j < (l.eraseIdx i).length := by rw [List.length_eraseIdx_of_lt hi]; omega
            have e : (l.eraseIdx i)[j] = l[j] := by
              have := eraseIdx_get (l := l) (i := i) (k := j)
              rw [List.getElem?_eq_getElem hlt, show skp i j = j by unfold skp; rw [if_pos (by omega)], List.getElem?_eq_getElem hj'] at this
              exact Option.some.inj this
            rw [← e, erase_ix hlt (h.nd.sublist (List.eraseIdx_sublist _ _))]
        rw [el] at h2
        have hmx : max i j < l.length := by omega
        have hmn : min i j < l.length - 1 := by omega
        have le1 : (l.eraseIdx (max i j)).length = l.length - 1 := List.length_eraseIdx_of_lt hmx
        have le : ((l.eraseIdx (max i j)).eraseIdx (min i j)).length = l.length - 1 - 1 := by rw [List.length_eraseIdx_of_lt (by omega), le1]
        have msq := make_sq l.length (fun k m => at_ a k m - (at_ a k i * at_ a j m + at_ a k j * at_ a i m) / at_ a i j)
        have msq1 := without_sq msq hmx
        have hsq' : Sq (without (without (make l.length l.length fun k m => at_ a k m - (at_ a k i * at_ a j m + at_ a k j * at_ a i m) / at_ a i j) (max i j)) (min i j)) ((l.eraseIdx (max i j)).eraseIdx (min i j)).length := by rw [le]; exact without_sq msq1 hmn
        have ix : ∀ k (hk : k < ((l.eraseIdx (max i j)).eraseIdx (min i j)).length), ∃ hk' : skp (max i j) (skp (min i j) k) < l.length, ((l.eraseIdx (max i j)).eraseIdx (min i j))[k] = l[skp (max i j) (skp (min i j) k)] := fun k hk => by
          have k1 : skp (min i j) k < l.length - 1 := skp_lt hmn (by omega)
          have k2 := skp_lt hmx k1
          refine ⟨k2, ?_⟩
          have q1 := eraseIdx_get (l := l.eraseIdx (max i j)) (i := min i j) (k := k)
          have q2 := eraseIdx_get (l := l) (i := max i j) (k := skp (min i j) k)
          rw [q2, List.getElem?_eq_getElem hk, List.getElem?_eq_getElem k2] at q1
          exact Option.some.inj q1
        have hat' : ∀ k m (hk : k < ((l.eraseIdx (max i j)).eraseIdx (min i j)).length) (hm : m < ((l.eraseIdx (max i j)).eraseIdx (min i j)).length), at_ (without (without (make l.length l.length fun k m => at_ a k m - (at_ a k i * at_ a j m + at_ a k j * at_ a i m) / at_ a i j) (max i j)) (min i j)) k m = S ((l.eraseIdx (max i j)).eraseIdx (min i j))[k] ((l.eraseIdx (max i j)).eraseIdx (min i j))[m] - (S ((l.eraseIdx (max i j)).eraseIdx (min i j))[k] l[i] * S l[j] ((l.eraseIdx (max i j)).eraseIdx (min i j))[m] + S ((l.eraseIdx (max i j)).eraseIdx (min i j))[k] l[j] * S l[i] ((l.eraseIdx (max i j)).eraseIdx (min i j))[m]) / S l[i] l[j] := fun k m hk hm => by
          obtain ⟨hk', ek⟩ := ix k hk
          obtain ⟨hm', em⟩ := ix m hm
          have k1 : skp (min i j) k < l.length - 1 := skp_lt hmn (by omega)
          rw [without_at msq1 hmn (by omega), without_at msq hmx k1, at_make hk' hm', hat _ _ hk' hm', hat _ _ hk' hi, hat _ _ hj' hm', hat _ _ hk' hj', hat _ _ hi hm', hat _ _ hi hj', ek, em]
        obtain ⟨S', fs', g1, g2, g3, g4⟩ := signsFrom_left fuel _ ((l.eraseIdx (max i j)).eraseIdx (min i j)) _ _ h2 (by omega) hsq' hat'
        refine ⟨S', fs', g1, ?_⟩
        generalize signsFrom fuel (without (without (make l.length l.length fun k m => at_ a k m - (at_ a k i * at_ a j m + at_ a k j * at_ a i m) / at_ a i j) (max i j)) (min i j)) = r at g2 g3 g4 ⊢
        have hhalf : (1 / (2 * S l[i] l[j]) : Rat) ≠ 0 := by
          have h2 : (2 : Rat) * S l[i] l[j] ≠ 0 := fun z => by
            rcases Rat.mul_eq_zero.mp z with z | z
            · exact absurd z (by decide)
            · exact hSb z
          rw [Rat.div_def, Rat.one_mul]
          intro z
          have := Rat.mul_inv_cancel _ h2
          rw [z, Rat.mul_zero] at this
          exact absurd this (by decide)
        generalize (1 / (2 * S l[i] l[j]) : Rat) = c at *
        have cP : ∀ (u v : Nat → Rat), cntP ((u, c) :: (v, -c) :: fs) = cntP fs + 1 := fun u v => by
          unfold cntP
          rw [List.filter_cons, List.filter_cons]
          by_cases z : 0 < c
          · rw [if_pos (decide_eq_true z), if_neg (by rw [decide_eq_false (show ¬ 0 < -c by grind)]; decide)]; rfl
          · rw [if_neg (by rw [decide_eq_false z]; decide), if_pos (decide_eq_true (show 0 < -c by grind))]; rfl
        have cN : ∀ (u v : Nat → Rat), cntN ((u, c) :: (v, -c) :: fs) = cntN fs + 1 := fun u v => by
          unfold cntN
          rw [List.filter_cons, List.filter_cons]
          by_cases z : 0 < c
          · rw [if_neg (by rw [decide_eq_false (show ¬ c < 0 by grind)]; decide), if_pos (decide_eq_true (show -c < 0 by grind))]; rfl
          · rw [if_pos (decide_eq_true (show c < 0 by grind)), if_neg (by rw [decide_eq_false (show ¬ -c < 0 by grind)]; decide)]; rfl
        rw [cP] at g2
        rw [cN] at g3
        exact ⟨by omega, by omega, by omega⟩
end EM
end

section
set_option Elab.async false
set_option linter.all false
namespace EM
open Lean.Grind
section
variable {ι κ : Type}
end
end EM
end

section
set_option Elab.async false
set_option linter.all false
namespace EM
open ShMat
def quadF (m : Nat) (S : Nat → Nat → Rat) (y : Nat → Rat) : Rat := sm m fun i => sm m fun j => S i j * (y i * y j)
theorem dot_unit {n i : Nat} (hi : i < n) (x : Nat → Rat) : dot n (fun t => if t = i then 1 else 0) x = x i := by
  unfold dot
  rw [sm_one hi (fun j _ ne => by show (if j = i then (1 : Rat) else 0) * x j = 0; rw [if_neg ne]; grind)]
  show (if i = i then (1 : Rat) else 0) * x i = x i
  rw [if_pos rfl]; grind
theorem quadF_congr {m : Nat} {S S' : Nat → Nat → Rat} {y y' : Nat → Rat} (hS : ∀ i, i < m → ∀ j, j < m → S i j = S' i j) (hy : ∀ i, i < m → y i = y' i) : quadF m S y = quadF m S' y' :=
  sm_congr fun i hi => sm_congr fun j hj => by rw [hS i hi j hj, hy i hi, hy j hj]
theorem dot_sm (n m : Nat) (c : Nat → Rat) (u : Nat → Nat → Rat) (x : Nat → Rat) : dot n (fun t => sm m fun j => c j * u j t) x = sm m fun j => c j * dot n (u j) x := by
  unfold dot
  have e : ∀ t, (sm m fun j => c j * u j t) * x t = sm m fun j => c j * (u j t * x t) := fun t => by
    rw [Rat.mul_comm, ← sm_mul]
    exact sm_congr fun j _ => by grind
  rw [sm_congr fun t _ => e t]
  have sw : ∀ (n m : Nat) (F : Nat → Nat → Rat), sm n (fun t => sm m fun j => F t j) = sm m fun j => sm n fun t => F t j := fun n m F => by
    induction n with
    | zero => show (0 : Rat) = sm m (fun j => 0); rw [sm_zero fun _ _ => rfl]
    | succ n ih =>
      show sm n _ + sm m _ = sm m (fun j => sm n (fun t => F t j) + F n j)
      rw [ih, ← sm_add]
  rw [sw]
  exact sm_congr fun j _ => by rw [← sm_mul]
theorem sm_ind {m p : Nat} (hp : p < m) (c : Rat) (z : Nat → Rat) : sm m (fun i => (if i = p then c else 0) * z i) = c * z p := by
  rw [sm_one hp (fun i _ ne => by show (if i = p then c else 0) * z i = 0; rw [if_neg ne]; grind)]
  show (if p = p then c else 0) * z p = _
  rw [if_pos rfl]
theorem dot_sub (n : Nat) (f g x : Nat → Rat) : dot n (fun t => f t - g t) x = dot n f x - dot n g x := by
  unfold dot
  have : sm n (fun t => (f t - g t) * x t) = sm n (fun t => f t * x t + (-1) * (g t * x t)) := sm_congr fun t _ => by grind
  rw [this, sm_add, sm_mul]; grind
end EM
namespace EM
open ShMat
/-- signs of a quotient of whole numbers -/
theorem div_pos' {a d : Int} (ha : a ≠ 0) (hd : d ≠ 0) : (0 < (a : Rat) / (d : Rat)) ↔ (decide (0 < a) = decide (0 < d)) := by
  have h1 := cast_ne hd
  have ca : (0 < a) ↔ (0 : Rat) < (a : Rat) := by exact_mod_cast Iff.rfl
  have cd : (0 < d) ↔ (0 : Rat) < (d : Rat) := by exact_mod_cast Iff.rfl
  have ea : (a : Rat) = (a : Rat) / (d : Rat) * (d : Rat) := by grind
  have na : (a : Rat) ≠ 0 := cast_ne ha
  generalize hq : (a : Rat) / (d : Rat) = z at ea
  have z0 : z ≠ 0 := fun w => na (by rw [ea, w, Rat.zero_mul])
  rw [decide_eq_decide, ca, cd]
  constructor
  · intro hz
    constructor
    · intro h
      apply Classical.byContradiction
      intro w
      have w' : 0 ≤ -(d : Rat) := by grind
      have := Rat.mul_nonneg (Rat.le_of_lt hz) w'
      grind
    · intro h
      rw [ea]
      exact Rat.mul_pos hz h
  · intro h
    apply Classical.byContradiction
    intro w
    have w' : 0 < -z := by grind
    by_cases dp : 0 < (d : Rat)
    · have := Rat.mul_pos w' dp
      have := h.mpr dp
      grind
    · have dn : 0 < -(d : Rat) := by grind
      have := Rat.mul_pos w' dn
      have : 0 < (a : Rat) := by rw [ea]; grind
      exact dp (h.mp this)
theorem cntP_cons {f : Nat → Rat} {s : Rat} {fs : List ((Nat → Rat) × Rat)} : cntP ((f, s) :: fs) = cntP fs + if 0 < s then 1 else 0 := by
  unfold cntP
  rw [List.filter_cons]
  by_cases h : 0 < s
  · rw [if_pos (decide_eq_true h), if_pos h]; rfl
  · rw [if_neg (by simpa using h), if_neg h]; rfl
theorem cntN_cons {f : Nat → Rat} {s : Rat} {fs : List ((Nat → Rat) × Rat)} (h0 : s ≠ 0) : cntN ((f, s) :: fs) = cntN fs + if 0 < s then 0 else 1 := by
  unfold cntN
  rw [List.filter_cons]
  by_cases h : 0 < s
  · rw [if_neg (by simp; grind), if_pos h]; rfl
  · rw [if_pos (decide_eq_true (by grind)), if_neg h]; rfl
end EM
end

section
set_option Elab.async false
set_option linter.all false
namespace EM
open ShMat
theorem sm_sw (n m : Nat) (F : Nat → Nat → Rat) : sm n (fun t => sm m fun j => F t j) = sm m fun j => sm n fun t => F t j := sm_comm n m F
/-- more than there are to combine them from -/
theorem span_dep {n r k : Nat} (h : k < r) {u v : Nat → Nat → Rat} {C : Nat → Nat → Rat} (hu : ∀ s, s < r → ∀ i, i < n → u s i = sm k fun l => C s l * v l i) : ∃ z : Nat → Rat, (∃ s, s < r ∧ z s ≠ 0) ∧ ∀ i, i < n → sm r (fun s => z s * u s i) = 0 := by
  obtain ⟨z, hz, s, hs, h0⟩ := more_unknowns h fun l s => C s l
  refine ⟨z, ⟨s, hs, h0⟩, fun i hi => ?_⟩
  have e : sm r (fun s => z s * u s i) = sm r (fun s => sm k fun l => v l i * (C s l * z s)) := sm_congr fun s hs => by
    rw [hu s hs i hi, ← sm_mul]
    exact sm_congr fun l _ => by grind
  rw [e, sm_sw]
  refine sm_zero fun l hl => ?_
  rw [sm_mul]
  have := hz l hl
  unfold dot at this
  rw [this]; grind
theorem mul_ne {a b : Rat} (ha : a ≠ 0) (hb : b ≠ 0) : a * b ≠ 0 := fun z => by
  rcases Rat.mul_eq_zero.mp z with w | w
  · exact ha w
  · exact hb w
theorem inv_ne {a : Rat} (ha : a ≠ 0) : a * (1 / a) = 1 := by rw [Rat.div_def, Rat.one_mul, Rat.mul_inv_cancel _ ha]
end EM
end

section
set_option Elab.async false
set_option linter.all false
namespace EM
open ShMat
/-- Q on N unknowns is the sum of the squares fs -/
def Sqs (N : Nat) (Q : (Nat → Rat) → Rat) (fs : List ((Nat → Rat) × Rat)) : Prop := Left N Q [] (fun _ _ => 0) fs
theorem Sqs.mk {N : Nat} {Q : (Nat → Rat) → Rat} {fs : List ((Nat → Rat) × Rat)} (hl : fs.length = N) (he : ∀ x, Q x = fs.foldr (fun p s => p.2 * (dot N p.1 x * dot N p.1 x) + s) 0) (hi : ∀ x, (∀ p ∈ fs, dot N p.1 x = 0) → ∀ j, j < N → x j = 0) : Sqs N Q fs :=
  ⟨.nil, by simp, by simp, by simpa using hl, fun x => by rw [he x]; show _ = _ + (0 : Rat); rw [Rat.add_zero], fun x hf _ => hi x hf⟩
theorem Sqs.len {N : Nat} {Q : (Nat → Rat) → Rat} {fs : List ((Nat → Rat) × Rat)} (h : Sqs N Q fs) : fs.length = N := by simpa using Left.len h
theorem Sqs.eq {N : Nat} {Q : (Nat → Rat) → Rat} {fs : List ((Nat → Rat) × Rat)} (h : Sqs N Q fs) (x : Nat → Rat) : Q x = fs.foldr (fun p s => p.2 * (dot N p.1 x * dot N p.1 x) + s) 0 := by
  have := Left.eq h x
  rw [this]; show _ + (0 : Rat) = _; rw [Rat.add_zero]
theorem Sqs.inj {N : Nat} {Q : (Nat → Rat) → Rat} {fs : List ((Nat → Rat) × Rat)} (h : Sqs N Q fs) (x : Nat → Rat) (hf : ∀ p ∈ fs, dot N p.1 x = 0) : ∀ j, j < N → x j = 0 := Left.inj h x hf (by simp)
theorem Sqs.congr {N : Nat} {Q Q' : (Nat → Rat) → Rat} {fs : List ((Nat → Rat) × Rat)} (h : Sqs N Q fs) (e : ∀ x, Q x = Q' x) : Sqs N Q' fs := Sqs.mk h.len (fun x => by rw [← e x]; exact h.eq x) h.inj
/-- the law of inertia once more -/
theorem Sqs.same {N : Nat} {Q : (Nat → Rat) → Rat} {fs gs : List ((Nat → Rat) × Rat)} (h : Sqs N Q fs) (h' : Sqs N Q gs) : cntP fs = cntP gs ∧ cntN fs = cntN gs := by
  obtain ⟨L, d, a1, a2, a3⟩ := Left.diag h
  obtain ⟨L', d', b1, b2, b3⟩ := Left.diag h'
  obtain ⟨i1, i2⟩ := inertia a1 b1
  rw [← a2, ← b2, ← a3, ← b3]
  exact ⟨i1, i2⟩
/-- with other unknowns -/
theorem Sqs.pull {N : Nat} {Q : (Nat → Rat) → Rat} {fs : List ((Nat → Rat) × Rat)} (h : Sqs N Q fs) (T : Nat → Nat → Rat) (hT : ∀ x, (∀ i, i < N → dot N (T i) x = 0) → ∀ j, j < N → x j = 0) :
    Sqs N (fun x => Q (fun i => dot N (T i) x)) (fs.map fun p => ((fun j => sm N fun i => p.1 i * T i j), p.2)) := by
  have ed : ∀ (p : Nat → Rat) (x : Nat → Rat), dot N (fun j => sm N fun i => p i * T i j) x = dot N p (fun i => dot N (T i) x) := fun p x => by
    rw [dot_sm]; rfl
  refine Sqs.mk (by rw [List.length_map]; exact h.len) (fun x => ?_) (fun x hf => hT x (h.inj _ fun p hp => ?_))
  · rw [h.eq, List.foldr_map]
    congr 1
    funext p s
    rw [ed]
  · have := hf _ (List.mem_map.mpr ⟨p, hp, rfl⟩)
    rw [← ed]; exact this
theorem cnt_map {fs : List ((Nat → Rat) × Rat)} (g : (Nat → Rat) × Rat → (Nat → Rat)) (c : Rat) (hc : 0 < c) : cntP (fs.map fun p => (g p, c * p.2)) = cntP fs ∧ cntN (fs.map fun p => (g p, c * p.2)) = cntN fs := by
  have h1 : ∀ r : Rat, decide (0 < c * r) = decide (0 < r) := fun r => decide_eq_decide.mpr ⟨fun h => by
    apply Classical.byContradiction
    intro z
    have : 0 ≤ -r := by grind
    have := Rat.mul_nonneg (Rat.le_of_lt hc) this
    grind, fun h => Rat.mul_pos hc h⟩
  have h2 : ∀ r : Rat, decide (c * r < 0) = decide (r < 0) := fun r => decide_eq_decide.mpr ⟨fun h => by
    apply Classical.byContradiction
    intro z
    have : 0 ≤ r := by grind
    have := Rat.mul_nonneg (Rat.le_of_lt hc) this
    grind, fun h => by have := Rat.mul_pos hc (show 0 < -r by grind); grind⟩
  unfold cntP cntN
  constructor
  · rw [List.filter_map, List.length_map]
    congr 1
    apply List.filter_congr
    intro p _
    exact h1 p.2
  · rw [List.filter_map, List.length_map]
    congr 1
    apply List.filter_congr
    intro p _
    exact h2 p.2
theorem cnt_map1 {fs : List ((Nat → Rat) × Rat)} (g : (Nat → Rat) × Rat → (Nat → Rat)) : cntP (fs.map fun p => (g p, p.2)) = cntP fs ∧ cntN (fs.map fun p => (g p, p.2)) = cntN fs := by
  unfold cntP cntN
  constructor
  · rw [List.filter_map, List.length_map]; rfl
  · rw [List.filter_map, List.length_map]; rfl
theorem cnt_app (fs gs : List ((Nat → Rat) × Rat)) : cntP (fs ++ gs) = cntP fs + cntP gs ∧ cntN (fs ++ gs) = cntN fs + cntN gs := by
  unfold cntP cntN
  rw [List.filter_append, List.filter_append, List.length_append, List.length_append]
  exact ⟨rfl, rfl⟩
theorem foldr_sq (N : Nat) (x : Nat → Rat) : ∀ (fs : List ((Nat → Rat) × Rat)) (s : Rat), fs.foldr (fun p s => p.2 * (dot N p.1 x * dot N p.1 x) + s) s = fs.foldr (fun p s => p.2 * (dot N p.1 x * dot N p.1 x) + s) 0 + s
  | [], s => by show s = 0 + s; grind
  | p :: fs, s => by
    show p.2 * _ + fs.foldr _ s = (p.2 * _ + fs.foldr _ 0) + s
    rw [foldr_sq N x fs s]; grind
def hM (k : Nat) (Q : Nat → Rat) : Nat → Nat → Rat := fun i j => if i + j < k then Q (i + j + 1) else 0
theorem sm_first' (m : Nat) (G : Nat → Rat) : sm (m + 1) G = G 0 + sm m (fun i => G (i + 1)) := by
  induction m with
  | zero => show (0 : Rat) + G 0 = G 0 + 0; grind
  | succ m ih => show sm (m + 1) G + G (m + 1) = G 0 + (sm m _ + G (m + 1)); rw [ih]; grind
/-- 2 X0 l and what is within -/
theorem hk_step (k : Nat) (Q X : Nat → Rat) : quadF (k + 2) (hM (k + 2) Q) X = 2 * (X 0 * (Q 1 * X 0 / 2 + sm (k + 1) fun j => Q (j + 2) * X (j + 1))) + quadF k (hM k fun m => Q (m + 2)) (fun i => X (i + 1)) := by
  have r0 : sm (k + 2) (fun j => hM (k + 2) Q 0 j * (X 0 * X j)) = Q 1 * (X 0 * X 0) + X 0 * sm (k + 1) (fun j => Q (j + 2) * X (j + 1)) := by
    rw [sm_first' (k + 1)]
    have e0 : hM (k + 2) Q 0 0 = Q 1 := by unfold hM; rw [if_pos (by omega)]
    rw [e0, ← sm_mul]
    congr 1
    refine sm_congr fun j hj => ?_
    have : hM (k + 2) Q 0 (j + 1) = Q (j + 2) := by unfold hM; rw [if_pos (by omega), show 0 + (j + 1) + 1 = j + 2 by omega]
    rw [this]; grind
  have ri : ∀ i, i < k + 1 → sm (k + 2) (fun j => hM (k + 2) Q (i + 1) j * (X (i + 1) * X j)) = Q (i + 2) * (X (i + 1) * X 0) + sm k (fun j => hM k (fun m => Q (m + 2)) i j * (X (i + 1) * X (j + 1))) := fun i hi => by
    rw [sm_first' (k + 1)]
    have e0 : hM (k + 2) Q (i + 1) 0 = Q (i + 2) := by unfold hM; rw [if_pos (by omega), show i + 1 + 0 + 1 = i + 2 by omega]
    rw [e0]
    congr 1
    show sm k _ + hM (k + 2) Q (i + 1) (k + 1) * _ = _
    have el : hM (k + 2) Q (i + 1) (k + 1) = 0 := by unfold hM; rw [if_neg (by omega)]
    rw [el, Rat.zero_mul, Rat.add_zero]
    refine sm_congr fun j hj => ?_
    congr 1
    unfold hM
    by_cases h : i + j < k
    · rw [if_pos h, if_pos (by omega), show i + 1 + (j + 1) + 1 = i + j + 1 + 2 by omega]
    · rw [if_neg h, if_neg (by omega)]
  unfold quadF
  rw [sm_first' (k + 1), r0, sm_congr fun i hi => ri i hi, sm_add]
  have lastz : sm (k + 1) (fun i => sm k (fun j => hM k (fun m => Q (m + 2)) i j * (X (i + 1) * X (j + 1)))) = sm k (fun i => sm k (fun j => hM k (fun m => Q (m + 2)) i j * (X (i + 1) * X (j + 1)))) := by
    show sm k _ + sm k _ = _
    rw [sm_zero (n := k) (f := fun j => hM k (fun m => Q (m + 2)) k j * (X (k + 1) * X (j + 1))) (fun j _ => by unfold hM; rw [if_neg (by omega)]; grind)]; grind
  rw [lastz]
  have sw : sm (k + 1) (fun i => Q (i + 2) * (X (i + 1) * X 0)) = X 0 * sm (k + 1) (fun j => Q (j + 2) * X (j + 1)) := by
    rw [← sm_mul]; exact sm_congr fun i _ => by grind
  rw [sw, Rat.div_def]
  have : (2 : Rat) * (2 : Rat)⁻¹ = 1 := Rat.mul_inv_cancel _ (by decide)
  grind
theorem hankel : ∀ (k : Nat) (Q : Nat → Rat), (k ≠ 0 → Q k ≠ 0) → ∃ fs, Sqs k (quadF k (hM k Q)) fs ∧ (cntP fs : Int) - (cntN fs : Int) = (if k % 2 = 0 then 0 else if 0 < Q k then 1 else -1) ∧ cntP fs + cntN fs = k
  | 0, Q, _ => ⟨[], Sqs.mk rfl (fun x => rfl) (fun x _ j hj => by omega), rfl, rfl⟩
  | 1, Q, h => by
    have h1 := h (by decide)
    refine ⟨[((fun t => if t = 0 then 1 else 0), Q 1)], Sqs.mk rfl (fun x => ?_) (fun x hf j hj => ?_), ?_, ?_⟩
    · have e : quadF 1 (hM 1 Q) x = Q 1 * (x 0 * x 0) := by
        show (0 : Rat) + (0 + hM 1 Q 0 0 * (x 0 * x 0)) = _
        have : hM 1 Q 0 0 = Q 1 := by unfold hM; rw [if_pos (by omega)]
        rw [this]; grind
      rw [e]
      show _ = Q 1 * (dot 1 _ x * dot 1 _ x) + 0
      rw [dot_unit (by decide)]; grind
    · have := hf _ (.head _)
      rw [dot_unit (by decide)] at this
      have e : j = 0 := by omega
      rw [e]; exact this
    · rw [if_neg (by decide), cntP_cons, cntN_cons h1]
      by_cases z : 0 < Q 1
      · rw [if_pos z, if_pos z, if_pos z]; rfl
      · rw [if_neg z, if_neg z, if_neg z]; rfl
    · rw [cntP_cons, cntN_cons h1]
      by_cases z : 0 < Q 1
      · rw [if_pos z, if_pos z]; rfl
      · rw [if_neg z, if_neg z]; rfl
  | k + 2, Q, h => by
    have hk := h (by omega)
    obtain ⟨fs, h1, h2, h3⟩ := hankel k (fun m => Q (m + 2)) (fun _ => hk)
    -- the linear form beside X0
    let l : Nat → Rat := fun t => if t = 0 then Q 1 / 2 else Q (t + 1)
    let e0 : Nat → Rat := fun t => if t = 0 then 1 else 0
    have de0 : ∀ x, dot (k + 2) e0 x = x 0 := fun x => dot_unit (by omega) x
    have dl : ∀ x, dot (k + 2) l x = Q 1 * x 0 / 2 + sm (k + 1) (fun j => Q (j + 2) * x (j + 1)) := fun x => by
      unfold dot
      rw [sm_first']
      show (if 0 = 0 then Q 1 / 2 else Q (0 + 1)) * x 0 + sm (k + 1) (fun i => (if i + 1 = 0 then Q 1 / 2 else Q (i + 1 + 1)) * x (i + 1)) = _
      rw [if_pos rfl, sm_congr (g := fun i => Q (i + 2) * x (i + 1)) fun i _ => by rw [if_neg (by omega)]]
      rw [Rat.div_def, Rat.div_def]; grind
    have dadd : ∀ x, dot (k + 2) (fun t => e0 t + l t) x = dot (k + 2) e0 x + dot (k + 2) l x := fun x => by
      unfold dot; rw [← sm_add]; exact sm_congr fun t _ => by grind
    have lift : ∀ (p x : Nat → Rat), dot (k + 2) (fun t => if t = 0 then 0 else if t = k + 1 then 0 else p (t - 1)) x = dot k p (fun i => x (i + 1)) := fun p x => by
      unfold dot
      rw [sm_first']
      show (if 0 = 0 then (0 : Rat) else _) * x 0 + (sm k _ + _) = _
      rw [if_pos rfl]
      show 0 * x 0 + (sm k (fun i => (if i + 1 = 0 then 0 else if i + 1 = k + 1 then 0 else p (i + 1 - 1)) * x (i + 1)) + (if k + 1 = 0 then 0 else if k + 1 = k + 1 then 0 else p (k + 1 - 1)) * x (k + 1)) = _
      rw [if_neg (by omega), if_pos rfl]
      have : sm k (fun i => (if i + 1 = 0 then 0 else if i + 1 = k + 1 then 0 else p (i + 1 - 1)) * x (i + 1)) = sm k (fun j => p j * x (j + 1)) := sm_congr fun i hi => by rw [if_neg (by omega), if_neg (by omega), Nat.add_sub_cancel]
      rw [this]; grind
    refine ⟨((fun t => e0 t + l t), 1 / 2) :: ((fun t => e0 t - l t), -(1 / 2)) :: fs.map (fun p => ((fun t => if t = 0 then 0 else if t = k + 1 then 0 else p.1 (t - 1)), p.2)), Sqs.mk (by simp [h1.len]) (fun x => ?_) (fun x hf => ?_), ?_, ?_⟩
    · rw [hk_step, h1.eq, List.foldr_cons, List.foldr_cons, List.foldr_map]
      dsimp only
      rw [dadd, dot_sub, de0, dl]
      have e : (fun (p : (Nat → Rat) × Rat) (s : Rat) => p.2 * (dot (k + 2) (fun t => if t = 0 then 0 else if t = k + 1 then 0 else p.1 (t - 1)) x * dot (k + 2) (fun t => if t = 0 then 0 else if t = k + 1 then 0 else p.1 (t - 1)) x) + s) = fun p s => p.2 * (dot k p.1 (fun i => x (i + 1)) * dot k p.1 (fun i => x (i + 1))) + s := by
        funext p s; rw [lift]
      rw [e]
      generalize Q 1 * x 0 / 2 + sm (k + 1) (fun j => Q (j + 2) * x (j + 1)) = L
      generalize List.foldr _ 0 fs = R
      rw [Rat.div_def]
      have : (2 : Rat) * (2 : Rat)⁻¹ = 1 := Rat.mul_inv_cancel _ (by decide)
      grind
    · have a1 := hf _ (.head _)
      have a2 := hf _ (.tail _ (.head _))
      dsimp only at a1 a2
      rw [dadd, de0] at a1
      rw [dot_sub, de0] at a2
      have x0 : x 0 = 0 := by
        have : (2 : Rat) * x 0 = 0 := by grind
        rcases Rat.mul_eq_zero.mp this with z | z
        · exact absurd z (by decide)
        · exact z
      have lz : dot (k + 2) l x = 0 := by rw [x0] at a1; grind
      have mid : ∀ j, j < k → x (j + 1) = 0 := h1.inj (fun i => x (i + 1)) fun p hp => by
        have := hf _ (.tail _ (.tail _ (List.mem_map.mpr ⟨p, hp, rfl⟩)))
        rw [lift] at this
        exact this
      have xl : x (k + 1) = 0 := by
        rw [dl, x0] at lz
        have e : sm (k + 1) (fun j => Q (j + 2) * x (j + 1)) = Q (k + 2) * x (k + 1) := by
          show sm k _ + Q (k + 2) * x (k + 1) = _
          rw [sm_zero fun j hj => by rw [mid j hj]; grind]; grind
        rw [e, Rat.mul_zero, Rat.div_def, Rat.zero_mul, Rat.zero_add] at lz
        rcases Rat.mul_eq_zero.mp lz with z | z
        · exact absurd z hk
        · exact z
      intro j hj
      by_cases c0 : j = 0
      · rw [c0]; exact x0
      · by_cases c1 : j = k + 1
        · rw [c1]; exact xl
        · have := mid (j - 1) (by omega)
          rwa [show j - 1 + 1 = j by omega] at this
    · obtain ⟨m1, m2⟩ := cnt_map1 (fs := fs) (fun p => fun t => if t = 0 then 0 else if t = k + 1 then 0 else p.1 (t - 1))
      have hp : (0 : Rat) < 1 / 2 := by decide +kernel
      have hn : ¬ (0 : Rat) < -(1 / 2) := by decide +kernel
      rw [cntP_cons, cntP_cons, cntN_cons (show (1 / 2 : Rat) ≠ 0 by decide +kernel), cntN_cons (show (-(1 / 2) : Rat) ≠ 0 by decide +kernel), m1, m2]
      simp only [if_pos hp, if_neg hn]
      have e : (k + 2) % 2 = k % 2 := by omega
      rw [e]
      have h2' : (cntP fs : Int) - (cntN fs : Int) = (if k % 2 = 0 then 0 else if 0 < Q (k + 2) then 1 else -1) := h2
      rw [← h2']
      omega
    · obtain ⟨m1, m2⟩ := cnt_map1 (fs := fs) (fun p => fun t => if t = 0 then 0 else if t = k + 1 then 0 else p.1 (t - 1))
      have hp : (0 : Rat) < 1 / 2 := by decide +kernel
      have hn : ¬ (0 : Rat) < -(1 / 2) := by decide +kernel
      rw [cntP_cons, cntP_cons, cntN_cons (show (1 / 2 : Rat) ≠ 0 by decide +kernel), cntN_cons (show (-(1 / 2) : Rat) ≠ 0 by decide +kernel), m1, m2]
      simp only [if_pos hp, if_neg hn]
      omega
end EM
end

section
set_option Elab.async false
set_option linter.all false
namespace EM
open ShMat
def shf (k : Nat) (q : Nat → Rat) : Nat → Rat := fun i => if i < k then 0 else q (i - k)
def bz (p q : Nat → Rat) : Nat → Nat → Rat := fun i j => sm (i + 1) fun a => q a * p (i + j + 1 - a) - p a * q (i + j + 1 - a)
theorem shf_zero (q : Nat → Rat) : shf 0 q = q := by funext i; unfold shf; rw [if_neg (by omega)]; rfl
theorem shf_succ (k : Nat) (q : Nat → Rat) (i : Nat) : shf (k + 1) q (i + 1) = shf k q i := by
  unfold shf
  by_cases h : i < k
  · rw [if_pos h, if_pos (by omega)]
  · rw [if_neg h, if_neg (by omega), show i + 1 - (k + 1) = i - k by omega]
theorem shf_succ0 (k : Nat) (q : Nat → Rat) : shf (k + 1) q 0 = 0 := by unfold shf; rw [if_pos (by omega)]
theorem bz_rec (p q : Nat → Rat) (i j : Nat) : bz p q (i + 1) j = bz p q i (j + 1) + (q (i + 1) * p (j + 1) - p (i + 1) * q (j + 1)) := by
  unfold bz
  show sm (i + 1) _ + _ = _
  have e : (fun a => q a * p (i + 1 + j + 1 - a) - p a * q (i + 1 + j + 1 - a)) = fun a => q a * p (i + (j + 1) + 1 - a) - p a * q (i + (j + 1) + 1 - a) := by
    funext a; rw [show i + 1 + j + 1 = i + (j + 1) + 1 by omega]
  rw [e]
  dsimp only
  rw [show i + (j + 1) + 1 - (i + 1) = j + 1 by omega]
theorem bz_add (p p' q : Nat → Rat) (i j : Nat) : bz (fun t => p t + p' t) q i j = bz p q i j + bz p' q i j := by
  unfold bz; rw [← sm_add]; exact sm_congr fun a _ => by grind
theorem bz_mul (c : Rat) (p q : Nat → Rat) (i j : Nat) : bz (fun t => c * p t) q i j = c * bz p q i j := by
  unfold bz; rw [← sm_mul]; exact sm_congr fun a _ => by grind
theorem bz_anti (p q : Nat → Rat) (i j : Nat) : bz p q i j = - bz q p i j := by
  have : bz q p i j = (-1) * bz p q i j := by unfold bz; rw [← sm_mul]; exact sm_congr fun a _ => by grind
  rw [this]; grind
theorem bz_sum (K : Nat) (c : Nat → Rat) (P : Nat → Nat → Rat) (q : Nat → Rat) (i j : Nat) : bz (fun t => sm K fun m => c m * P m t) q i j = sm K fun m => c m * bz (P m) q i j := by
  induction K with
  | zero =>
    show bz (fun _ => 0) q i j = 0
    unfold bz; exact sm_zero fun a _ => by grind
  | succ K ih =>
    show bz (fun t => (sm K fun m => c m * P m t) + c K * P K t) q i j = (sm K fun m => c m * bz (P m) q i j) + c K * bz (P K) q i j
    rw [bz_add, ih, bz_mul]
theorem anti_sum (p q : Nat → Rat) (s : Nat) : sm (s + 1) (fun a => q a * p (s - a) - p a * q (s - a)) = 0 := by
  have e := sm_rev s (fun a => q a * p (s - a) - p a * q (s - a))
  have e2 : sm (s + 1) (fun i => q (s - i) * p (s - (s - i)) - p (s - i) * q (s - (s - i))) = (-1) * sm (s + 1) (fun a => q a * p (s - a) - p a * q (s - a)) := by
    rw [← sm_mul]
    exact sm_congr fun i hi => by rw [show s - (s - i) = i by omega]; grind
  rw [e2] at e
  grind
theorem bz_hi {p q : Nat → Rat} {d : Nat} (hp : ∀ i, d < i → p i = 0) (hq : ∀ i, d < i → q i = 0) {i j : Nat} (h : d ≤ i ∨ d ≤ j) : bz p q i j = 0 := by
  rcases h with h | h
  · -- what is missing to the whole sum is 0
    have key : ∀ t, sm (i + 1 + t) (fun a => q a * p (i + j + 1 - a) - p a * q (i + j + 1 - a)) = bz p q i j := fun t => by
      induction t with
      | zero => rfl
      | succ t ih =>
        show sm (i + 1 + t) _ + (q (i + 1 + t) * p (i + j + 1 - (i + 1 + t)) - p (i + 1 + t) * q (i + j + 1 - (i + 1 + t))) = _
        rw [ih, hq (i + 1 + t) (by omega), hp (i + 1 + t) (by omega)]; grind
    have := anti_sum p q (i + j + 1)
    have k2 := key (j + 1)
    rw [show i + 1 + (j + 1) = i + j + 1 + 1 by omega, this] at k2
    exact k2.symm
  · unfold bz
    exact sm_zero fun a ha => by rw [hp (i + j + 1 - a) (by omega), hq (i + j + 1 - a) (by omega)]; grind
theorem bz_shift (q : Nat → Rat) : ∀ (k i j : Nat), bz (shf k q) q i j = sm k fun l => shf l q i * shf (k - 1 - l) q j
  | 0, i, j => by
    rw [shf_zero]
    unfold bz
    exact sm_zero fun a _ => by grind
  | k + 1, 0, j => by
    have e1 : bz (shf (k + 1) q) q 0 j = q 0 * shf (k + 1) q (j + 1) - shf (k + 1) q 0 * q (j + 1) := by
      show (0 : Rat) + (q 0 * shf (k + 1) q (0 + j + 1 - 0) - shf (k + 1) q 0 * q (0 + j + 1 - 0)) = _
      rw [show 0 + j + 1 - 0 = j + 1 by omega]; grind
    rw [e1, shf_succ, shf_succ0, sm_first', sm_zero (fun l hl => by show shf (l + 1) q 0 * _ = 0; rw [shf_succ0]; grind)]
    have : shf 0 q 0 = q 0 := by rw [shf_zero]
    rw [this, show k + 1 - 1 - 0 = k by omega]; grind
  | k + 1, i + 1, j => by
    rw [bz_rec, bz_shift q (k + 1) i (j + 1), shf_succ, shf_succ]
    -- both sums, the odd ones out
    have a1 : sm (k + 1) (fun l => shf l q i * shf (k + 1 - 1 - l) q (j + 1)) = sm k (fun l => shf l q i * shf (k - 1 - l) q j) + shf k q i * q (j + 1) := by
      show sm k _ + shf k q i * shf (k + 1 - 1 - k) q (j + 1) = _
      rw [show k + 1 - 1 - k = 0 by omega, shf_zero]
      congr 1
      refine sm_congr fun l hl => ?_
      rw [show k + 1 - 1 - l = (k - 1 - l) + 1 by omega, shf_succ]
    have a2 : sm (k + 1) (fun l => shf l q (i + 1) * shf (k + 1 - 1 - l) q j) = q (i + 1) * shf k q j + sm k (fun l => shf l q i * shf (k - 1 - l) q j) := by
      rw [sm_first', shf_zero, show k + 1 - 1 - 0 = k by omega]
      congr 1
      refine sm_congr fun l hl => ?_
      rw [shf_succ, show k + 1 - 1 - (l + 1) = k - 1 - l by omega]
    rw [a1, a2]; grind
theorem quadF_prod (N k : Nat) (a b : Nat → Nat → Rat) (x : Nat → Rat) : quadF N (fun i j => sm k fun l => a l i * b l j) x = sm k fun l => dot N (a l) x * dot N (b l) x := by
  unfold quadF
  have e1 : ∀ i, sm N (fun j => (sm k fun l => a l i * b l j) * (x i * x j)) = sm k fun l => a l i * x i * dot N (b l) x := fun i => by
    have : sm N (fun j => (sm k fun l => a l i * b l j) * (x i * x j)) = sm N (fun j => sm k fun l => a l i * x i * (b l j * x j)) := sm_congr fun j _ => by
      rw [Rat.mul_comm, ← sm_mul]; exact sm_congr fun l _ => by grind
    rw [this, sm_sw]
    refine sm_congr fun l _ => ?_
    rw [sm_mul]; rfl
  rw [sm_congr fun i _ => e1 i, sm_sw]
  refine sm_congr fun l _ => ?_
  have : sm N (fun i => a l i * x i * dot N (b l) x) = sm N (fun i => dot N (b l) x * (a l i * x i)) := sm_congr fun i _ => by grind
  rw [this, sm_mul]
  show dot N (b l) x * dot N (a l) x = _
  grind
theorem quadF_add (N : Nat) (M M' : Nat → Nat → Rat) (x : Nat → Rat) : quadF N (fun i j => M i j + M' i j) x = quadF N M x + quadF N M' x := by
  unfold quadF
  rw [← sm_add]
  refine sm_congr fun i _ => ?_
  rw [← sm_add]
  exact sm_congr fun j _ => by grind
theorem quadF_mul (N : Nat) (c : Rat) (M : Nat → Nat → Rat) (x : Nat → Rat) : quadF N (fun i j => c * M i j) x = c * quadF N M x := by
  unfold quadF
  rw [← sm_mul]
  refine sm_congr fun i _ => ?_
  rw [← sm_mul]
  exact sm_congr fun j _ => by grind
theorem quadF_sum (N K : Nat) (c : Nat → Rat) (M : Nat → Nat → Nat → Rat) (x : Nat → Rat) : quadF N (fun i j => sm K fun m => c m * M m i j) x = sm K fun m => c m * quadF N (M m) x := by
  induction K with
  | zero => exact sm_zero fun i _ => sm_zero fun j _ => by show (0 : Rat) * _ = 0; grind
  | succ K ih =>
    show quadF N (fun i j => (sm K fun m => c m * M m i j) + c K * M K i j) x = _ + _
    rw [quadF_add, ih, quadF_mul]
theorem sm_more {n m : Nat} {f : Nat → Rat} (h : n ≤ m) (hz : ∀ a, n ≤ a → a < m → f a = 0) : sm m f = sm n f := by
  induction m with
  | zero => have : n = 0 := by omega
            subst this; rfl
  | succ m ih =>
    by_cases e : n = m + 1
    · rw [e]
    · show sm m f + f m = _
      rw [ih (by omega) (fun a h1 h2 => hz a h1 (by omega)), hz m (by omega) (by omega)]; grind
theorem quadF_less {N m : Nat} {M : Nat → Nat → Rat} (h : m ≤ N) (hz : ∀ i j, m ≤ i ∨ m ≤ j → M i j = 0) (x : Nat → Rat) : quadF N M x = quadF m M x := by
  unfold quadF
  rw [sm_more h (fun i h1 _ => sm_zero fun j _ => by rw [hz i j (.inl h1)]; grind)]
  exact sm_congr fun i _ => sm_more h (fun j h1 _ => by rw [hz i j (.inr h1)]; grind)
/-- the sums of products, as Hankel's form -/
theorem hk_sum (k : Nat) (Q X : Nat → Rat) : sm (k + 1) (fun m => Q m * sm m fun l => X l * X (m - 1 - l)) = quadF k (hM k Q) X := by
  rw [sm_first']
  have z : Q 0 * sm 0 (fun l => X l * X (0 - 1 - l)) = 0 := by show Q 0 * 0 = 0; grind
  rw [z, Rat.zero_add]
  cases k with
  | zero => rfl
  | succ n =>
    have e1 : sm (n + 1) (fun m => Q (m + 1) * sm (m + 1) fun l => X l * X (m + 1 - 1 - l)) = sm (n + 1) (fun i => sm (i + 1) fun j => Q (i + 1) * (X j * X (i - j))) := sm_congr fun i _ => by
      rw [← sm_mul]
      exact sm_congr fun j _ => by rw [Nat.add_sub_cancel]
    rw [e1, sm_swap n (fun i j => Q (i + 1) * (X j * X (i - j)))]
    unfold quadF
    refine sm_congr fun j hj => ?_
    have e2 : sm (n + 1) (fun l => hM (n + 1) Q j l * (X j * X l)) = sm (n - j + 1) (fun l => hM (n + 1) Q j l * (X j * X l)) := sm_more (by omega) (fun a h1 h2 => by unfold hM; rw [if_neg (by omega)]; grind)
    rw [e2]
    refine sm_congr fun l hl => ?_
    unfold hM
    rw [if_pos (by omega), show j + l - j = l by omega]
def cz (w : List Int) : Nat → Rat := fun i => ((coZ w i : Int) : Rat)
def ldZ (w : List Int) : Int := coZ w (w.length - 1)
def nxt (p q : List Int) : List Int := growZ (contZ (divZ p q).r) (-1)
def sgn1 (p q : List Int) : Int := if (p.length - q.length) % 2 = 0 then 0 else if decide (0 < ldZ p) = decide (0 < ldZ q) then 1 else -1
def polT : Nat → List Int → List Int → Int
  | 0, _, _ => 0
  | n + 1, p, q => if q = [] then 0 else sgn1 p q + polT n q (nxt p q)
def lasT : Nat → List Int → List Int → List Int
  | 0, p, _ => p
  | n + 1, p, q => if q = [] then p else lasT n q (nxt p q)
theorem cz_out {w : List Int} {i : Nat} (h : w.length ≤ i) : cz w i = 0 := by unfold cz; rw [coZ_out h]; rfl
theorem TrZ.ld {w : List Int} (h : TrZ w) (hn : w ≠ []) : ldZ w ≠ 0 := by
  rcases h with h | h
  · exact absurd h hn
  · exact h
theorem nxt_tr {p q : List Int} (hp : TrZ p) (hq : TrZ q) (nq : q ≠ []) : TrZ (nxt p q) ∧ (nxt p q).length < q.length := by
  obtain ⟨_, h2, h3, _⟩ := divZ_spec hp hq nq
  exact ⟨growZ_tr (contZ_tr h2) (by decide), by unfold nxt; rw [growZ_len, contZ_len]; exact h3⟩
/-- s p = Q q - c (the next one) -/
theorem div_coefs {p q : List Int} (hp : TrZ p) (hq : TrZ q) (nq : q ≠ []) : ∃ (s c : Rat), 0 < s ∧ 0 < c ∧ (∀ i, s * cz p i = (sm (p.length + 1 - q.length) fun m => cz (divZ p q).q m * shf m (cz q) i) - c * cz (nxt p q) i) ∧ (q.length ≤ p.length → s * cz p (p.length - 1) = cz (divZ p q).q (p.length - q.length) * cz q (q.length - 1)) := by
  obtain ⟨s0, h2, h3, h4, h5⟩ := divZ_spec hp hq nq
  have ql : 0 < q.length := List.length_pos_iff.mpr nq
  have lq : (divZ p q).q.length = p.length + 1 - q.length := dv_qlen _ _
  obtain ⟨c, c0, hc⟩ : ∃ c : Rat, 0 < c ∧ ∀ i, cz (divZ p q).r i = -(c * cz (nxt p q) i) := by
    by_cases hr : (divZ p q).r = []
    · refine ⟨1, by decide, fun i => ?_⟩
      have e : nxt p q = [] := by unfold nxt; rw [hr]; rfl
      rw [e, hr]; show (0 : Rat) = -(1 * 0); grind
    · have := rdv_pos h2 hr
      refine ⟨((rdv (divZ p q).r 0 : Int) : Rat), by exact_mod_cast this, fun i => ?_⟩
      unfold cz nxt
      rw [coZ_grow, ← coZ_cont (divZ p q).r i, Rat.intCast_mul, Rat.intCast_mul]
      show _ = -(_ * (_ * (-1 : Rat)))
      grind
  have main : ∀ i, ((divZ p q).s : Rat) * cz p i = (sm (p.length + 1 - q.length) fun m => cz (divZ p q).q m * shf m (cz q) i) + cz (divZ p q).r i := fun i => by
    have e : (PS.cst ((divZ p q).s : Rat) * zP p).c i = (zP (divZ p q).q * zP q + zP (divZ p q).r).c i := by rw [h5]
    rw [PS.cst_mul, PS.add_c, PS.mul_c] at e
    have e1 : sm (i + 1) (fun a => (zP (divZ p q).q).c a * (zP q).c (i - a)) = sm (p.length + 1 - q.length) fun m => cz (divZ p q).q m * shf m (cz q) i := by
      have b1 : sm (i + 1 + (p.length + 1 - q.length)) (fun m => cz (divZ p q).q m * shf m (cz q) i) = sm (p.length + 1 - q.length) (fun m => cz (divZ p q).q m * shf m (cz q) i) := sm_more (by omega) (fun a h1 _ => by rw [cz_out (by omega)]; grind)
      have b2 : sm (i + 1 + (p.length + 1 - q.length)) (fun m => cz (divZ p q).q m * shf m (cz q) i) = sm (i + 1) (fun m => cz (divZ p q).q m * shf m (cz q) i) := sm_more (by omega) (fun a h1 _ => by unfold shf; rw [if_pos (by omega)]; grind)
      rw [← b1, b2]
      refine sm_congr fun a ha => ?_
      rw [zP_c, zP_c]
      unfold shf
      rw [if_neg (by omega)]; rfl
    rw [← e1]
    unfold cz
    rw [← zP_c p i, e, zP_c (divZ p q).r i]
  refine ⟨((divZ p q).s : Rat), c, by exact_mod_cast s0, c0, fun i => by rw [main i, hc i]; grind, fun hle => ?_⟩
  rw [main, cz_out (w := (divZ p q).r) (by omega), Rat.add_zero]
  rw [sm_one (j := p.length - q.length) (by omega) (fun m hm ne => by
    unfold shf
    rw [if_neg (by omega), cz_out (w := q) (by omega)]; grind)]
  congr 1
  unfold shf
  rw [if_neg (by omega), show p.length - 1 - (p.length - q.length) = q.length - 1 by omega]
/-- one step: squares of the quotient, and the next form -/
theorem bz_step {p q : List Int} (hp : TrZ p) (hq : TrZ q) (nq : q ≠ []) (hl : q.length < p.length) : ∃ (s c : Rat), 0 < s ∧ 0 < c ∧ cz (divZ p q).q (p.length - q.length) = s * cz p (p.length - 1) / cz q (q.length - 1) ∧
    ∀ x, s * quadF (p.length - 1) (bz (cz p) (cz q)) x = quadF (p.length - q.length) (hM (p.length - q.length) (cz (divZ p q).q)) (fun l => dot (p.length - 1) (shf l (cz q)) x) + c * quadF (q.length - 1) (bz (cz q) (cz (nxt p q))) x := by
  obtain ⟨s, c, s0, c0, h1, h2⟩ := div_coefs hp hq nq
  have ql : 0 < q.length := List.length_pos_iff.mpr nq
  have lq0 : cz q (q.length - 1) ≠ 0 := fun z => hq.ld nq (castQ_zero.mp z)
  obtain ⟨tn, ln⟩ := nxt_tr hp hq nq
  refine ⟨s, c, s0, c0, ?_, fun x => ?_⟩
  · rw [h2 (by omega)]; grind
  · have eb : ∀ i j, s * bz (cz p) (cz q) i j = (sm (p.length - q.length + 1) fun m => cz (divZ p q).q m * bz (shf m (cz q)) (cz q) i j) + c * bz (cz q) (cz (nxt p q)) i j := fun i j => by
      rw [← bz_mul]
      have e : (fun t => s * cz p t) = fun t => (sm (p.length + 1 - q.length) fun m => cz (divZ p q).q m * shf m (cz q) t) + (-c) * cz (nxt p q) t := by
        funext t; rw [h1 t]; grind
      rw [e, bz_add, bz_sum, bz_mul, bz_anti (cz (nxt p q)), show p.length + 1 - q.length = p.length - q.length + 1 by omega]; grind
    have e2 : s * quadF (p.length - 1) (bz (cz p) (cz q)) x = quadF (p.length - 1) (fun i j => (sm (p.length - q.length + 1) fun m => cz (divZ p q).q m * bz (shf m (cz q)) (cz q) i j) + c * bz (cz q) (cz (nxt p q)) i j) x := by
      rw [← quadF_mul]
      exact quadF_congr (fun i _ j _ => eb i j) (fun _ _ => rfl)
    rw [e2, quadF_add, quadF_sum, quadF_mul, quadF_less (N := p.length - 1) (m := q.length - 1) (by omega) (fun i j h => bz_hi (fun i hi => cz_out (by omega)) (fun i hi => cz_out (by omega)) h)]
    congr 1
    rw [← hk_sum]
    refine sm_congr fun m hm => ?_
    congr 1
    rw [← quadF_prod]
    exact quadF_congr (fun i _ j _ => bz_shift (cz q) m i j) (fun _ _ => rfl)
theorem dot_pad {n N : Nat} (h : n ≤ N) (f x : Nat → Rat) : dot N (fun t => if t < n then f t else 0) x = dot n f x := by
  unfold dot
  rw [sm_more h (fun a h1 _ => by show (if a < n then f a else 0) * _ = 0; rw [if_neg (by omega)]; grind)]
  exact sm_congr fun a ha => by
    show (if a < n then f a else 0) * _ = _
    rw [if_pos ha]
/-- joining: k squares in the X's, and those of what is left -/
theorem Sqs.join {N d k : Nat} {q : Nat → Rat} (hN : N = d + k) (q0 : q d ≠ 0) (qz : ∀ i, d < i → q i = 0) {Q1 Q2 Q : (Nat → Rat) → Rat} {fs gs : List ((Nat → Rat) × Rat)} (h1 : Sqs k Q1 fs) (h2 : Sqs d Q2 gs) {a b : Rat} (a0 : 0 < a) (b0 : 0 < b)
    (hQ : ∀ x, Q x = a * Q1 (fun l => dot N (shf l q) x) + b * Q2 x) : ∃ hs, Sqs N Q hs ∧ cntP hs = cntP fs + cntP gs ∧ cntN hs = cntN fs + cntN gs := by
  have df : ∀ (p : Nat → Rat) (x : Nat → Rat), dot N (fun t => sm k fun l => p l * shf l q t) x = dot k p (fun l => dot N (shf l q) x) := fun p x => by
    rw [dot_sm]; rfl
  obtain ⟨m1, m2⟩ := cnt_map (fs := fs) (fun p => fun t => sm k fun l => p.1 l * shf l q t) a a0
  obtain ⟨m3, m4⟩ := cnt_map (fs := gs) (fun p => fun t => if t < d then p.1 t else 0) b b0
  refine ⟨fs.map (fun p => ((fun t => sm k fun l => p.1 l * shf l q t), a * p.2)) ++ gs.map (fun p => ((fun t => if t < d then p.1 t else 0), b * p.2)), Sqs.mk (by rw [List.length_append, List.length_map, List.length_map, h1.len, h2.len]; omega) (fun x => ?_) (fun x hf => ?_), by rw [(cnt_app _ _).1, m1, m3], by rw [(cnt_app _ _).2, m2, m4]⟩
  · have sc : ∀ (ts : List ((Nat → Rat) × Rat)) (g : (Nat → Rat) × Rat → Nat → Rat) (c : Rat) (n : Nat) (y : Nat → Rat), (∀ p, dot N (g p) x = dot n p.1 y) → (ts.map fun p => (g p, c * p.2)).foldr (fun p s => p.2 * (dot N p.1 x * dot N p.1 x) + s) 0 = c * ts.foldr (fun p s => p.2 * (dot n p.1 y * dot n p.1 y) + s) 0 := fun ts g c n y hg => by
      induction ts with
      | nil => show (0 : Rat) = c * 0; grind
      | cons p ts ih =>
        rw [List.map_cons, List.foldr_cons, ih, List.foldr_cons]
        dsimp only
        rw [hg p]; grind
    rw [List.foldr_append, foldr_sq, hQ x, h1.eq, h2.eq, sc fs (fun p => fun t => sm k fun l => p.1 l * shf l q t) a k (fun l => dot N (shf l q) x) (fun p => df p.1 x), sc gs (fun p => fun t => if t < d then p.1 t else 0) b d x (fun p => dot_pad (by omega) p.1 x)]
  · have z2 : ∀ j, j < d → x j = 0 := h2.inj x fun p hp => by
      have := hf _ (List.mem_append_right _ (List.mem_map.mpr ⟨p, hp, rfl⟩))
      rwa [dot_pad (by omega)] at this
    have z1 : ∀ l, l < k → dot N (shf l q) x = 0 := h1.inj (fun l => dot N (shf l q) x) fun p hp => by
      have := hf _ (List.mem_append_left _ (List.mem_map.mpr ⟨p, hp, rfl⟩))
      rwa [df] at this
    have z3 : ∀ l, l ≤ k → ∀ j, j < d + l → x j = 0 := fun l => by
      induction l with
      | zero => intro _ j hj; exact z2 j (by omega)
      | succ l ih =>
        intro hl j hj
        have ih := ih (by omega)
        by_cases e : j = d + l
        · have := z1 l (by omega)
          unfold dot at this
          rw [sm_one (j := d + l) (by omega) (fun i hi ne => by
            unfold shf
            by_cases c1 : i < l
            · rw [if_pos c1]; grind
            · rw [if_neg c1]
              by_cases c2 : i < d + l
              · rw [ih i c2]; grind
              · rw [qz (i - l) (by omega)]; grind)] at this
          unfold shf at this
          rw [if_neg (by omega), show d + l - l = d by omega] at this
          rcases Rat.mul_eq_zero.mp this with w | w
          · exact absurd w q0
          · rw [e]; exact w
        · exact ih j (by omega)
    intro j hj
    exact z3 k (Nat.le_refl _) j (by omega)
theorem Sqs.zero (N : Nat) (Q : (Nat → Rat) → Rat) (h : ∀ x, Q x = 0) : ∃ fs, Sqs N Q fs ∧ cntP fs = 0 ∧ cntN fs = 0 := by
  have fold : ∀ (l : List Nat) (x : Nat → Rat), (l.map (fun i => (((fun t => if t = i then 1 else 0) : Nat → Rat), (0 : Rat)))).foldr (fun p s => p.2 * (dot N p.1 x * dot N p.1 x) + s) 0 = 0 := fun l x => by
    induction l with
    | nil => rfl
    | cons i l ih => rw [List.map_cons, List.foldr_cons, ih]; dsimp only; grind
  refine ⟨(List.range N).map (fun i => ((fun t => if t = i then 1 else 0), 0)), Sqs.mk (by simp) (fun x => by rw [fold, h x]) (fun x hf j hj => ?_), ?_, ?_⟩
  · have := hf _ (List.mem_map.mpr ⟨j, List.mem_range.mpr hj, rfl⟩)
    rwa [dot_unit hj] at this
  · unfold cntP
    have : ((List.range N).map (fun i => (((fun t => if t = i then 1 else 0) : Nat → Rat), (0 : Rat)))).filter (fun p => decide (0 < p.2)) = [] := by
      rw [List.filter_eq_nil_iff]
      intro p hp
      obtain ⟨i, _, rfl⟩ := List.mem_map.mp hp
      simp
    rw [this]; rfl
  · unfold cntN
    have : ((List.range N).map (fun i => (((fun t => if t = i then 1 else 0) : Nat → Rat), (0 : Rat)))).filter (fun p => decide (p.2 < 0)) = [] := by
      rw [List.filter_eq_nil_iff]
      intro p hp
      obtain ⟨i, _, rfl⟩ := List.mem_map.mp hp
      simp
    rw [this]; rfl
/-- **Sturm's chain tells the squares of Bezout's form** -/
theorem sturm : ∀ (fuel : Nat) (p q : List Int), TrZ p → TrZ q → p ≠ [] → q.length < p.length → q.length ≤ fuel →
    ∃ fs, Sqs (p.length - 1) (quadF (p.length - 1) (bz (cz p) (cz q))) fs ∧ (cntP fs : Int) - (cntN fs : Int) = polT fuel p q ∧ cntP fs + cntN fs + (lasT fuel p q).length = p.length
  | fuel, p, [], hp, _, np, _, _ => by
    obtain ⟨fs, h1, h2, h3⟩ := Sqs.zero (p.length - 1) (quadF (p.length - 1) (bz (cz p) (cz []))) (fun x => sm_zero fun i _ => sm_zero fun j _ => by
      have : bz (cz p) (cz []) i j = 0 := by
        unfold bz
        exact sm_zero fun a _ => by rw [cz_out (w := []) (Nat.zero_le _), cz_out (w := []) (Nat.zero_le _)]; grind
      rw [this]; grind)
    refine ⟨fs, h1, ?_, ?_⟩
    · rw [h2, h3]
      cases fuel with
      | zero => rfl
      | succ n => show _ = (if ([] : List Int) = [] then (0 : Int) else _); rw [if_pos rfl]; rfl
    · rw [h2, h3]
      cases fuel with
      | zero => show 0 + 0 + p.length = _; omega
      | succ n => show 0 + 0 + (if ([] : List Int) = [] then p else _).length = _; rw [if_pos rfl]; omega
  | 0, p, _ :: _, _, _, _, _, h => by simp at h
  | fuel + 1, p, b :: q', hp, hq, np, hl, hf => by
    generalize hqe : b :: q' = q at *
    have nq : q ≠ [] := by rw [← hqe]; simp
    have ql : 0 < q.length := List.length_pos_iff.mpr nq
    obtain ⟨tn, ln⟩ := nxt_tr hp hq nq
    obtain ⟨gs, g1, g2, g3⟩ := sturm fuel q (nxt p q) hq tn nq ln (by omega)
    obtain ⟨s, c, s0, c0, hQ, hx⟩ := bz_step hp hq nq hl
    have lp0 : cz p (p.length - 1) ≠ 0 := fun z => hp.ld np (castQ_zero.mp z)
    have lq0 : cz q (q.length - 1) ≠ 0 := fun z => hq.ld nq (castQ_zero.mp z)
    have hQ0 : cz (divZ p q).q (p.length - q.length) ≠ 0 := by
      rw [hQ]
      intro z
      have e : s * cz p (p.length - 1) = s * cz p (p.length - 1) / cz q (q.length - 1) * cz q (q.length - 1) := by grind
      rw [z, Rat.zero_mul] at e
      rcases Rat.mul_eq_zero.mp e with w | w
      · rw [w] at s0; exact absurd s0 (by decide)
      · exact lp0 w
    obtain ⟨fs, f1, f2, f3⟩ := hankel (p.length - q.length) (cz (divZ p q).q) (fun _ => hQ0)
    obtain ⟨hs, k1, k2, k3⟩ := Sqs.join (N := p.length - 1) (d := q.length - 1) (k := p.length - q.length) (q := cz q) (by omega) lq0 (fun i hi => cz_out (by omega)) f1 g1 (Q := fun x => s * quadF (p.length - 1) (bz (cz p) (cz q)) x) (a := 1) (b := c) (by decide) c0 (fun x => by rw [hx x, Rat.one_mul])
    have si : (0 : Rat) < 1 / s := by
      have e := inv_ne (show s ≠ 0 from fun z => by rw [z] at s0; exact absurd s0 (by decide))
      apply Classical.byContradiction
      intro w
      have : 0 ≤ -(1 / s) := by grind
      have := Rat.mul_nonneg (Rat.le_of_lt s0) this
      grind
    have sn : s ≠ 0 := fun z => by rw [z] at s0; exact absurd s0 (by decide)
    obtain ⟨n1, n2⟩ := cnt_map (fs := hs) (fun p => p.1) (1 / s) si
    have fin : Sqs (p.length - 1) (quadF (p.length - 1) (bz (cz p) (cz q))) (hs.map fun p => (p.1, 1 / s * p.2)) := by
      refine Sqs.mk (by rw [List.length_map]; exact k1.len) (fun x => ?_) (fun x hf' => k1.inj x fun t ht => hf' (t.1, 1 / s * t.2) (List.mem_map.mpr ⟨t, ht, rfl⟩))
      have e := k1.eq x
      have sc : ∀ ts : List ((Nat → Rat) × Rat), (ts.map fun t => (t.1, 1 / s * t.2)).foldr (fun t u => t.2 * (dot (p.length - 1) t.1 x * dot (p.length - 1) t.1 x) + u) 0 = 1 / s * ts.foldr (fun t u => t.2 * (dot (p.length - 1) t.1 x * dot (p.length - 1) t.1 x) + u) 0 := fun ts => by
        induction ts with
        | nil => show (0 : Rat) = 1 / s * 0; grind
        | cons t ts ih => rw [List.map_cons, List.foldr_cons, ih, List.foldr_cons]; dsimp only; grind
      rw [sc, ← e]
      have := inv_ne sn
      grind
    refine ⟨_, fin, ?_, ?_⟩
    · rw [n1, n2, k2, k3]
      show _ = (if q = [] then (0 : Int) else sgn1 p q + polT fuel q (nxt p q))
      rw [if_neg nq, ← g2]
      have es : sgn1 p q = (if (p.length - q.length) % 2 = 0 then 0 else if 0 < cz (divZ p q).q (p.length - q.length) then 1 else -1) := by
        unfold sgn1
        by_cases c1 : (p.length - q.length) % 2 = 0
        · rw [if_pos c1, if_pos c1]
        · rw [if_neg c1, if_neg c1]
          have hd := div_pos' (hp.ld np) (hq.ld nq)
          have eq2 : (0 < cz (divZ p q).q (p.length - q.length)) ↔ (0 < ((ldZ p : Int) : Rat) / ((ldZ q : Int) : Rat)) := by
            rw [hQ]
            show (0 < s * ((ldZ p : Int) : Rat) / ((ldZ q : Int) : Rat)) ↔ _
            have e : s * ((ldZ p : Int) : Rat) / ((ldZ q : Int) : Rat) = s * (((ldZ p : Int) : Rat) / ((ldZ q : Int) : Rat)) := by rw [Rat.div_def, Rat.div_def]; grind
            rw [e]
            constructor
            · intro h
              apply Classical.byContradiction
              intro w
              have := Rat.mul_nonneg (Rat.le_of_lt s0) (show 0 ≤ -(((ldZ p : Int) : Rat) / ((ldZ q : Int) : Rat)) by grind)
              grind
            · intro h; exact Rat.mul_pos s0 h
          by_cases c2 : decide (0 < ldZ p) = decide (0 < ldZ q)
          · rw [if_pos c2, if_pos (eq2.mpr (hd.mpr c2))]
          · rw [if_neg c2, if_neg (fun z => c2 (hd.mp (eq2.mp z)))]
      rw [es, ← f2]
      omega
    · rw [n1, n2, k2, k3]
      show _ + (if q = [] then p else lasT fuel q (nxt p q)).length = _
      rw [if_neg nq]
      omega
end EM
end

section
set_option Elab.async false
set_option linter.all false
namespace EM
open ShMat
def ev (N : Nat) (f : Nat → Rat) (a : Rat) : Rat := sm N fun i => f i * a ^ i
def ev2 (N : Nat) (M : Nat → Nat → Rat) (a b : Rat) : Rat := sm N fun i => sm N fun j => M i j * (a ^ i * b ^ j)
theorem pw_succ (a : Rat) (n : Nat) : a ^ (n + 1) = a ^ n * a := Rat.pow_succ a n
theorem pw_zero (a : Rat) : a ^ 0 = 1 := Rat.pow_zero a
theorem pw_mul (a b : Rat) : ∀ n : Nat, (a * b) ^ n = a ^ n * b ^ n
  | 0 => by rw [pw_zero, pw_zero, pw_zero]; grind
  | n + 1 => by rw [pw_succ, pw_succ, pw_succ, pw_mul a b n]; grind
theorem pw_add (a : Rat) (m : Nat) : ∀ n : Nat, a ^ (m + n) = a ^ m * a ^ n
  | 0 => by rw [Nat.add_zero, pw_zero]; grind
  | n + 1 => by rw [← Nat.add_assoc, pw_succ, pw_succ, pw_add a m n]; grind
theorem pw_ne {a : Rat} (h : a ≠ 0) : ∀ n : Nat, a ^ n ≠ 0
  | 0 => by rw [pw_zero]; decide
  | n + 1 => by rw [pw_succ]; exact mul_ne (pw_ne h n) h
theorem vander : ∀ (N : Nat) (a lam : Nat → Rat), (∀ s t, s < N → t < N → s ≠ t → a s ≠ a t) → (∀ i, i < N → sm N (fun s => lam s * a s ^ i) = 0) → ∀ s, s < N → lam s = 0
  | 0, _, _, _, _, s, hs => by omega
  | N + 1, a, lam, ha, h, s, hs => by
    have ih := vander N a (fun s => lam s * (a s - a N)) (fun s t h1 h2 => ha s t (by omega) (by omega)) (fun i hi => by
      have e1 := h i (by omega)
      have e2 := h (i + 1) (by omega)
      have c : sm (N + 1) (fun s => lam s * a s ^ (i + 1) + (-(a N)) * (lam s * a s ^ i)) = 0 := by rw [sm_add, sm_mul, e1, e2]; grind
      have e3 : sm (N + 1) (fun s => lam s * a s ^ (i + 1) + (-(a N)) * (lam s * a s ^ i)) = sm N (fun s => lam s * (a s - a N) * a s ^ i) := by
        show sm N _ + (lam N * a N ^ (i + 1) + (-(a N)) * (lam N * a N ^ i)) = _
        have z : lam N * a N ^ (i + 1) + (-(a N)) * (lam N * a N ^ i) = 0 := by rw [pw_succ]; grind
        rw [z, Rat.add_zero]
        exact sm_congr fun s _ => by rw [pw_succ]; grind
      rw [← e3]; exact c)
    have low : ∀ s, s < N → lam s = 0 := fun s hs => by
      rcases Rat.mul_eq_zero.mp (ih s hs) with w | w
      · exact w
      · exact absurd (show a s = a N by grind) (ha s N (by omega) (by omega) (by omega))
    by_cases e : s = N
    · have := h 0 (by omega)
      have e2 : sm (N + 1) (fun s => lam s * a s ^ 0) = lam N := by
        show sm N _ + lam N * a N ^ 0 = _
        rw [sm_zero (fun s hs => by rw [low s hs]; grind), pw_zero]; grind
      rw [e, ← e2]; exact this
    · exact low s (by omega)
theorem quadF_ev (N K : Nat) (M : Nat → Nat → Rat) (lam a : Nat → Rat) : quadF N M (fun i => sm K fun s => lam s * a s ^ i) = sm K fun s => sm K fun t => lam s * lam t * ev2 N M (a s) (a t) := by
  have e : quadF N M (fun i => sm K fun s => lam s * a s ^ i) = sm N fun i => sm N fun j => sm K fun s => sm K fun t => lam s * lam t * (M i j * (a s ^ i * a t ^ j)) := by
    refine sm_congr fun i _ => sm_congr fun j _ => ?_
    have p : (sm K fun s => lam s * a s ^ i) * (sm K fun s => lam s * a s ^ j) = sm K fun s => sm K fun t => (lam s * a s ^ i) * (lam t * a t ^ j) := by
      rw [Rat.mul_comm, ← sm_mul]
      refine sm_congr fun s _ => ?_
      rw [Rat.mul_comm, ← sm_mul]
    rw [p, ← sm_mul]
    refine sm_congr fun s _ => ?_
    rw [← sm_mul]
    exact sm_congr fun t _ => by grind
  rw [e]
  have sw1 : (sm N fun i => sm N fun j => sm K fun s => sm K fun t => lam s * lam t * (M i j * (a s ^ i * a t ^ j))) = sm N fun i => sm K fun s => sm K fun t => sm N fun j => lam s * lam t * (M i j * (a s ^ i * a t ^ j)) := sm_congr fun i _ => by
    rw [sm_sw]; exact sm_congr fun s _ => sm_sw _ _ _
  rw [sw1, sm_sw]
  refine sm_congr fun s _ => ?_
  rw [sm_sw]
  refine sm_congr fun t _ => ?_
  unfold ev2
  rw [← sm_mul]
  refine sm_congr fun i _ => ?_
  rw [sm_mul]
theorem ev2_prod (N : Nat) (f g : Nat → Rat) (a b : Rat) : ev2 N (fun i j => f i * g j) a b = ev N f a * ev N g b := by
  unfold ev2 ev
  rw [Rat.mul_comm, ← sm_mul]
  refine sm_congr fun i _ => ?_
  rw [Rat.mul_comm, ← sm_mul]
  exact sm_congr fun j _ => by grind
theorem ev2_add (N : Nat) (M M' : Nat → Nat → Rat) (a b : Rat) : ev2 N (fun i j => M i j + M' i j) a b = ev2 N M a b + ev2 N M' a b := by
  unfold ev2; rw [← sm_add]; refine sm_congr fun i _ => ?_; rw [← sm_add]; exact sm_congr fun j _ => by grind
theorem ev2_mul (N : Nat) (c : Rat) (M : Nat → Nat → Rat) (a b : Rat) : ev2 N (fun i j => c * M i j) a b = c * ev2 N M a b := by
  unfold ev2; rw [← sm_mul]; refine sm_congr fun i _ => ?_; rw [← sm_mul]; exact sm_congr fun j _ => by grind
theorem ev2_congr {N : Nat} {M M' : Nat → Nat → Rat} (h : ∀ i, i < N → ∀ j, j < N → M i j = M' i j) (a b : Rat) : ev2 N M a b = ev2 N M' a b := sm_congr fun i hi => sm_congr fun j hj => by rw [h i hi j hj]
/-- a matrix that ends at n -/
theorem ev2_more {n : Nat} {M : Nat → Nat → Rat} (hz : ∀ i j, i = n ∨ j = n → i ≤ n → j ≤ n → M i j = 0) (a b : Rat) : ev2 (n + 1) M a b = ev2 n M a b := by
  unfold ev2
  show sm n _ + sm (n + 1) _ = _
  rw [sm_zero (n := n + 1) (fun j hj => by rw [hz n j (.inl rfl) (Nat.le_refl _) (by omega)]; grind), Rat.add_zero]
  refine sm_congr fun i hi => ?_
  show sm n _ + M i n * _ = _
  rw [hz i n (.inr rfl) (by omega) (Nat.le_refl _)]; grind
theorem ev2_up1 (n : Nat) {M : Nat → Nat → Rat} (hz : ∀ i, i < n → M i n = 0) (a b : Rat) : ev2 (n + 1) (fun i j => if i = 0 then 0 else M (i - 1) j) a b = a * ev2 n M a b := by
  unfold ev2
  rw [sm_first', sm_zero (n := n + 1) (fun j _ => by show (if 0 = 0 then (0 : Rat) else _) * _ = 0; rw [if_pos rfl]; grind), Rat.zero_add, ← sm_mul]
  refine sm_congr fun i hi => ?_
  show sm n _ + (if i + 1 = 0 then (0 : Rat) else M (i + 1 - 1) n) * _ = _
  rw [if_neg (by omega), Nat.add_sub_cancel, hz i hi, ← sm_mul]
  have : sm n (fun j => (if i + 1 = 0 then (0 : Rat) else M (i + 1 - 1) j) * (a ^ (i + 1) * b ^ j)) = sm n (fun j => a * (M i j * (a ^ i * b ^ j))) := sm_congr fun j _ => by
    rw [if_neg (by omega), Nat.add_sub_cancel, pw_succ]; grind
  rw [this]; grind
theorem ev2_up2 (n : Nat) {M : Nat → Nat → Rat} (hz : ∀ j, j < n → M n j = 0) (a b : Rat) : ev2 (n + 1) (fun i j => if j = 0 then 0 else M i (j - 1)) a b = b * ev2 n M a b := by
  have sw : ∀ (N : Nat) (M : Nat → Nat → Rat), ev2 N M a b = ev2 N (fun i j => M j i) b a := fun N M => by
    unfold ev2
    rw [sm_sw]
    exact sm_congr fun i _ => sm_congr fun j _ => by grind
  rw [sw, sw n]
  exact ev2_up1 n (M := fun i j => M j i) hz b a
theorem ev2_up3 (n : Nat) (M : Nat → Nat → Rat) (a b : Rat) : ev2 (n + 1) (fun i j => if i = 0 then 0 else if j = 0 then 0 else M (i - 1) (j - 1)) a b = a * b * ev2 n M a b := by
  unfold ev2
  rw [sm_first', sm_zero (n := n + 1) (fun j _ => by show (if 0 = 0 then (0 : Rat) else _) * _ = 0; rw [if_pos rfl]; grind), Rat.zero_add, ← sm_mul]
  refine sm_congr fun i hi => ?_
  rw [sm_first']
  show (if i + 1 = 0 then (0 : Rat) else if 0 = 0 then 0 else _) * _ + _ = _
  rw [if_neg (by omega), if_pos rfl, Rat.zero_mul, Rat.zero_add, ← sm_mul]
  refine sm_congr fun j _ => ?_
  show (if i + 1 = 0 then (0 : Rat) else if j + 1 = 0 then 0 else M (i + 1 - 1) (j + 1 - 1)) * _ = _
  rw [if_neg (by omega), if_neg (by omega), Nat.add_sub_cancel, Nat.add_sub_cancel, pw_succ, pw_succ]; grind
def rvf (n : Nat) (f : Nat → Rat) : Nat → Rat := fun i => if i ≤ n then f (n - i) else 0
def Cm (n : Nat) (f : Nat → Rat) : Nat → Nat → Rat := fun i j => sm (min i j + 1) fun k => rvf n f (i - k) * rvf n f (j - k) - f (i - k) * f (j - k)
theorem Cm_rec (n : Nat) (f : Nat → Rat) (i j : Nat) : Cm n f (i + 1) (j + 1) = (rvf n f (i + 1) * rvf n f (j + 1) - f (i + 1) * f (j + 1)) + Cm n f i j := by
  unfold Cm
  rw [show min (i + 1) (j + 1) = min i j + 1 by omega, sm_first']
  congr 1
  exact sm_congr fun k _ => by rw [show i + 1 - (k + 1) = i - k by omega, show j + 1 - (k + 1) = j - k by omega]
theorem Cm_0 (n : Nat) (f : Nat → Rat) (j : Nat) : Cm n f 0 j = rvf n f 0 * rvf n f j - f 0 * f j := by
  unfold Cm
  rw [show min 0 j = 0 by omega]
  show (0 : Rat) + _ = _
  rw [Rat.zero_add]; rfl
theorem Cm_sym (n : Nat) (f : Nat → Rat) (i j : Nat) : Cm n f i j = Cm n f j i := by
  unfold Cm
  rw [Nat.min_comm]
  exact sm_congr fun k _ => by grind
theorem Cm_hi {n : Nat} (f : Nat → Rat) {b : Nat} (hb : b ≤ n) : Cm n f n b = 0 := by
  unfold Cm
  rw [show min n b = b by omega]
  have e1 : sm (b + 1) (fun k => rvf n f (n - k) * rvf n f (b - k) - f (n - k) * f (b - k)) = sm (b + 1) (fun k => f k * f (n - b + k)) + (-1) * sm (b + 1) (fun k => f (n - k) * f (b - k)) := by
    rw [← sm_mul, ← sm_add]
    refine sm_congr fun k hk => ?_
    unfold rvf
    rw [if_pos (by omega), if_pos (by omega), show n - (n - k) = k by omega, show n - (b - k) = n - b + k by omega]; grind
  have e2 := sm_rev b (fun k => f (n - k) * f (b - k))
  have e3 : sm (b + 1) (fun i => f (n - (b - i)) * f (b - (b - i))) = sm (b + 1) (fun k => f k * f (n - b + k)) := sm_congr fun i hi => by
    rw [show n - (b - i) = n - b + i by omega, show b - (b - i) = i by omega]; grind
  rw [e1, e2, e3]; grind
theorem Cm_ev (n : Nat) (f : Nat → Rat) (x y : Rat) : (1 - x * y) * ev2 n (Cm n f) x y = ev (n + 1) (rvf n f) x * ev (n + 1) (rvf n f) y - ev (n + 1) f x * ev (n + 1) f y := by
  have h1 : ev2 (n + 1) (Cm n f) x y = ev2 n (Cm n f) x y := ev2_more (fun i j h h1 h2 => by
    rcases h with rfl | rfl
    · exact Cm_hi f h2
    · rw [Cm_sym]; exact Cm_hi f h1) x y
  have h2 := ev2_up3 n (Cm n f) x y
  have h3 : ev2 (n + 1) (Cm n f) x y = ev2 (n + 1) (fun i j => (rvf n f i * rvf n f j + (-1) * (f i * f j)) + (if i = 0 then 0 else if j = 0 then 0 else Cm n f (i - 1) (j - 1))) x y := ev2_congr (fun i _ j _ => by
    cases i with
    | zero => rw [if_pos rfl, Cm_0]; grind
    | succ i =>
      cases j with
      | zero => rw [if_neg (by omega), if_pos rfl, Cm_sym, Cm_0]; grind
      | succ j => rw [if_neg (by omega), if_neg (by omega), Cm_rec, Nat.add_sub_cancel, Nat.add_sub_cancel]; grind) x y
  rw [ev2_add, ev2_add, ev2_mul, ev2_prod, ev2_prod, h2] at h3
  rw [h1] at h3
  grind
def eps (i : Nat) : Rat := if (i / 2) % 2 = 0 then 1 else -1
theorem eps_sq (i : Nat) : eps i * eps i = 1 := by unfold eps; split <;> decide +kernel
theorem eps_even {i : Nat} (h : i % 2 = 0) : eps (i + 1) = eps i := by unfold eps; rw [show (i + 1) / 2 = i / 2 by omega]
theorem eps_odd {i : Nat} (h : i % 2 = 1) : eps (i + 1) = - eps i := by
  unfold eps
  rw [show (i + 1) / 2 = i / 2 + 1 by omega]
  by_cases z : (i / 2) % 2 = 0
  · rw [if_neg (by omega), if_pos z]
  · rw [if_pos (by omega), if_neg z]; decide
def axA (F : Nat → Rat) : Nat → Rat := fun i => if i % 2 = 0 then eps i * F i else 0
def axB (F : Nat → Rat) : Nat → Rat := fun i => if i % 2 = 1 then eps i * F i else 0
def Kf (F : Nat → Rat) : Nat → Nat → Rat := fun i j => eps i * eps j * bz (axB F) (axA F) i j
theorem bz_par (F : Nat → Rat) {i j : Nat} (h : (i + j) % 2 = 1) : bz (axB F) (axA F) i j = 0 := by
  unfold bz
  refine sm_zero fun a ha => ?_
  unfold axA axB
  by_cases z : a % 2 = 0
  · rw [if_pos z, if_neg (by omega), if_neg (by omega)]; grind
  · rw [if_neg z, if_pos (by omega), if_neg (show ¬ (i + j + 1 - a) % 2 = 0 by omega)]; grind
theorem Kf_rec (F : Nat → Rat) (i j : Nat) : Kf F i (j + 1) + Kf F (i + 1) j = if (i + j) % 2 = 1 then F (i + 1) * F (j + 1) else 0 := by
  unfold Kf
  by_cases h : (i + j) % 2 = 1
  · rw [if_pos h, bz_rec]
    have s1 := eps_sq i
    have s2 := eps_sq j
    by_cases hi : i % 2 = 0
    · have ei := eps_even hi
      have ej := eps_odd (show j % 2 = 1 by omega)
      have a1 : axA F (i + 1) = 0 := by unfold axA; rw [if_neg (by omega)]
      have a2 : axB F (i + 1) = eps i * F (i + 1) := by unfold axB; rw [if_pos (by omega), ei]
      have a3 : axA F (j + 1) = - eps j * F (j + 1) := by unfold axA; rw [if_pos (by omega), ej]
      rw [a1, a2, a3, ei, ej]; grind
    · have ei := eps_odd (show i % 2 = 1 by omega)
      have ej := eps_even (show j % 2 = 0 by omega)
      have a1 : axB F (i + 1) = 0 := by unfold axB; rw [if_neg (by omega)]
      have a2 : axA F (i + 1) = - eps i * F (i + 1) := by unfold axA; rw [if_pos (by omega), ei]
      have a3 : axB F (j + 1) = eps j * F (j + 1) := by unfold axB; rw [if_pos (by omega), ej]
      rw [a1, a2, a3, ei, ej]; grind
  · rw [if_neg h, bz_par F (i := i) (j := j + 1) (by omega), bz_par F (i := i + 1) (j := j) (by omega)]; grind
theorem Kf_0 (F : Nat → Rat) (j : Nat) : Kf F 0 j = if j % 2 = 0 then F 0 * F (j + 1) else 0 := by
  unfold Kf
  by_cases h : j % 2 = 0
  · rw [if_pos h]
    have e : bz (axB F) (axA F) 0 j = axA F 0 * axB F (j + 1) - axB F 0 * axA F (j + 1) := by
      show (0 : Rat) + (axA F 0 * axB F (0 + j + 1 - 0) - axB F 0 * axA F (0 + j + 1 - 0)) = _
      rw [show 0 + j + 1 - 0 = j + 1 by omega]; grind
    have a1 : axB F 0 = 0 := by unfold axB; rw [if_neg (by omega)]
    have a2 : axA F 0 = F 0 := by unfold axA; rw [if_pos rfl]; show (if (0 / 2) % 2 = 0 then (1 : Rat) else -1) * F 0 = _; rw [if_pos rfl]; grind
    have a3 : axB F (j + 1) = eps j * F (j + 1) := by unfold axB; rw [if_pos (by omega), eps_even h]
    have a4 : eps 0 = 1 := rfl
    rw [e, a1, a2, a3, a4]
    have := eps_sq j
    grind
  · rw [if_neg h, bz_par F (by omega)]; grind
theorem Kf_c0 (F : Nat → Rat) (i : Nat) : Kf F i 0 = if i % 2 = 0 then F (i + 1) * F 0 else 0 := by
  unfold Kf
  by_cases h : i % 2 = 0
  · rw [if_pos h]
    have e : bz (axB F) (axA F) i 0 = axB F (i + 1) * axA F 0 - axA F (i + 1) * axB F 0 := by
      have := anti_sum (axB F) (axA F) (i + 1)
      have e2 : sm (i + 1 + 1) (fun a => axA F a * axB F (i + 1 - a) - axB F a * axA F (i + 1 - a)) = bz (axB F) (axA F) i 0 + (axA F (i + 1) * axB F (i + 1 - (i + 1)) - axB F (i + 1) * axA F (i + 1 - (i + 1))) := rfl
      rw [e2, Nat.sub_self] at this
      grind
    have a1 : axB F 0 = 0 := by unfold axB; rw [if_neg (by omega)]
    have a2 : axA F 0 = F 0 := by unfold axA; rw [if_pos rfl]; show (if (0 / 2) % 2 = 0 then (1 : Rat) else -1) * F 0 = _; rw [if_pos rfl]; grind
    have a3 : axB F (i + 1) = eps i * F (i + 1) := by unfold axB; rw [if_pos (by omega), eps_even h]
    have a4 : eps 0 = 1 := rfl
    rw [e, a1, a2, a3, a4]
    have := eps_sq i
    grind
  · rw [if_neg h, bz_par F (by omega)]; grind
theorem ev_neg (N : Nat) (F : Nat → Rat) (u : Rat) : ev N F (-u) = ev N (fun i => if i % 2 = 0 then F i else - F i) u := by
  have p : ∀ i, (-u) ^ i = (if i % 2 = 0 then 1 else -1) * u ^ i := fun i => by
    induction i with
    | zero => rw [pw_zero, pw_zero]; show (1 : Rat) = (if 0 % 2 = 0 then 1 else -1) * 1; rw [if_pos rfl]; grind
    | succ i ih =>
      rw [pw_succ, pw_succ, ih]
      by_cases h : i % 2 = 0
      · rw [if_pos h, if_neg (by omega)]; grind
      · rw [if_neg h, if_pos (by omega)]; grind
  unfold ev
  refine sm_congr fun i _ => ?_
  show F i * (-u) ^ i = (if i % 2 = 0 then F i else - F i) * u ^ i
  rw [p]
  by_cases h : i % 2 = 0
  · rw [if_pos h, if_pos h]; grind
  · rw [if_neg h, if_neg h]; grind
theorem Kf_ev {n : Nat} {F : Nat → Rat} (hF : ∀ i, n < i → F i = 0) (u v : Rat) : 2 * ((u + v) * ev2 n (Kf F) u v) = ev (n + 1) F u * ev (n + 1) F v - ev (n + 1) F (-u) * ev (n + 1) F (-v) := by
  have hA : ∀ i, n < i → axA F i = 0 := fun i hi => by unfold axA; rw [hF i hi]; split <;> grind
  have hB : ∀ i, n < i → axB F i = 0 := fun i hi => by unfold axB; rw [hF i hi]; split <;> grind
  have hz : ∀ i j, n ≤ i ∨ n ≤ j → Kf F i j = 0 := fun i j h => by unfold Kf; rw [bz_hi hB hA h]; grind
  have h1 := ev2_up1 n (M := Kf F) (fun i _ => hz i n (.inr (Nat.le_refl _))) u v
  have h2 := ev2_up2 n (M := Kf F) (fun j _ => hz n j (.inl (Nat.le_refl _))) u v
  have h3 : ev2 (n + 1) (fun i j => (if i = 0 then 0 else Kf F (i - 1) j) + (if j = 0 then 0 else Kf F i (j - 1))) u v = ev2 (n + 1) (fun i j => (1 / 2) * (F i * F j + (-1) * ((if i % 2 = 0 then F i else - F i) * (if j % 2 = 0 then F j else - F j)))) u v := ev2_congr (fun i _ j _ => by
    have half : (1 / 2 : Rat) * 2 = 1 := by decide +kernel
    cases i with
    | zero =>
      rw [if_pos rfl]
      cases j with
      | zero => rw [if_pos rfl]; show (0 : Rat) + 0 = 1 / 2 * (F 0 * F 0 + -1 * ((if 0 % 2 = 0 then F 0 else - F 0) * (if 0 % 2 = 0 then F 0 else - F 0))); rw [if_pos rfl]; grind
      | succ j =>
        rw [if_neg (by omega), Nat.add_sub_cancel, Kf_0]
        show (0 : Rat) + _ = 1 / 2 * (F 0 * F (j + 1) + -1 * ((if 0 % 2 = 0 then F 0 else - F 0) * _))
        rw [if_pos (show 0 % 2 = 0 from rfl)]
        by_cases c : j % 2 = 0
        · rw [if_pos c, if_neg (show ¬ (j + 1) % 2 = 0 by omega)]; grind
        · rw [if_neg c, if_pos (show (j + 1) % 2 = 0 by omega)]; grind
    | succ i =>
      rw [if_neg (by omega), Nat.add_sub_cancel]
      cases j with
      | zero =>
        rw [if_pos rfl, Kf_c0]
        show _ + (0 : Rat) = 1 / 2 * (F (i + 1) * F 0 + -1 * (_ * (if 0 % 2 = 0 then F 0 else - F 0)))
        rw [if_pos (show 0 % 2 = 0 from rfl)]
        by_cases c : i % 2 = 0
        · rw [if_pos c, if_neg (show ¬ (i + 1) % 2 = 0 by omega)]; grind
        · rw [if_neg c, if_pos (show (i + 1) % 2 = 0 by omega)]; grind
      | succ j =>
        rw [if_neg (by omega), Nat.add_sub_cancel, Kf_rec]
        by_cases c : (i + j) % 2 = 1
        · rw [if_pos c]
          by_cases ci : (i + 1) % 2 = 0
          · rw [if_pos ci, if_neg (show ¬ (j + 1) % 2 = 0 by omega)]; grind
          · rw [if_neg ci, if_pos (show (j + 1) % 2 = 0 by omega)]; grind
        · rw [if_neg c]
          by_cases ci : (i + 1) % 2 = 0
          · rw [if_pos ci, if_pos (show (j + 1) % 2 = 0 by omega)]; grind
          · rw [if_neg ci, if_neg (show ¬ (j + 1) % 2 = 0 by omega)]; grind) u v
  rw [ev2_add, h1, h2, ev2_mul, ev2_add, ev2_mul, ev2_prod, ev2_prod] at h3
  rw [ev_neg, ev_neg]
  have half : (2 : Rat) * (1 / 2) = 1 := by decide +kernel
  have e : u * ev2 n (Kf F) u v + v * ev2 n (Kf F) u v = (u + v) * ev2 n (Kf F) u v := by grind
  rw [← e, h3, ← Rat.mul_assoc, half]; grind
/-- reversed: the value at the inverse -/
theorem one_pw (n : Nat) : (1 : Rat) ^ n = 1 := by
  induction n with
  | zero => exact pw_zero 1
  | succ n ih => rw [pw_succ, ih]; decide +kernel
theorem ev_rvf (n : Nat) (f : Nat → Rat) {x : Rat} (hx : x ≠ 0) : ev (n + 1) (rvf n f) x = x ^ n * ev (n + 1) f (1 / x) := by
  unfold ev
  rw [sm_rev, ← sm_mul]
  refine sm_congr fun i hi => ?_
  unfold rvf
  rw [if_pos (by omega), show n - (n - i) = i by omega]
  have e : x ^ n = x ^ (n - i) * x ^ i := by rw [← pw_add, show n - i + i = n by omega]
  have e2 : x ^ i * (1 / x) ^ i = 1 := by
    rw [← pw_mul, inv_ne hx, one_pw]
  rw [e]; grind
/-- **the circle's form and the axis' form have the same squares** -/
theorem circ_axis {n : Nat} {f F : Nat → Rat} (hF0 : ∀ i, n < i → F i = 0) (hmob : ∀ u : Rat, u ≠ 1 → ev (n + 1) F u = (1 - u) ^ n * ev (n + 1) f ((1 + u) / (1 - u))) {fs gs : List ((Nat → Rat) × Rat)}
    (h1 : Sqs n (quadF n (Cm n f)) fs) (h2 : Sqs n (quadF n (bz (axB F) (axA F))) gs) : cntP fs = cntP gs ∧ cntN fs = cntN gs := by
  cases n with
  | zero =>
    have e1 : fs = [] := List.length_eq_zero_iff.mp h1.len
    have e2 : gs = [] := List.length_eq_zero_iff.mp h2.len
    rw [e1, e2]; exact ⟨rfl, rfl⟩
  | succ n =>
    let u : Nat → Rat := fun s => ((s + 2 : Nat) : Rat)
    let x : Nat → Rat := fun s => (1 + u s) / (1 - u s)
    let r : Nat → Rat := fun s => (1 - u s) ^ n
    have up : ∀ s, 2 ≤ u s := fun s => by
      show (2 : Rat) ≤ ((s + 2 : Nat) : Rat)
      have : ((2 : Nat) : Rat) ≤ ((s + 2 : Nat) : Rat) := by exact_mod_cast (show 2 ≤ s + 2 by omega)
      exact this
    have d1 : ∀ s, 1 - u s ≠ 0 := fun s z => by have := up s; grind
    have d2 : ∀ s, 1 + u s ≠ 0 := fun s z => by have := up s; grind
    have ui : ∀ s t, s ≠ t → u s ≠ u t := fun s t hne z => hne (by
      have : ((s + 2 : Nat) : Rat) = ((t + 2 : Nat) : Rat) := z
      have : s + 2 = t + 2 := by exact_mod_cast this
      omega)
    have xe : ∀ s, x s * (1 - u s) = 1 + u s := fun s => by
      show (1 + u s) / (1 - u s) * (1 - u s) = _
      have := d1 s; grind
    have x0 : ∀ s, x s ≠ 0 := fun s z => by have := xe s; rw [z, Rat.zero_mul] at this; exact d2 s this.symm
    have xi : ∀ s t, s ≠ t → x s ≠ x t := fun s t hne z => ui s t hne (by
      have e1 := xe s
      have e2 := xe t
      rw [z] at e1
      have a1 := d1 s
      have a2 := d1 t
      have e3 : (1 + u s) * (1 - u t) = (1 + u t) * (1 - u s) := by rw [← e1, ← e2]; grind
      have : (2 : Rat) * (u s - u t) = 0 := by grind
      rcases Rat.mul_eq_zero.mp this with w | w
      · exact absurd w (by decide +kernel)
      · grind)
    -- values
    have vf : ∀ s, ev (n + 1 + 1) F (u s) = r s * (1 - u s) * ev (n + 1 + 1) f (x s) := fun s => by
      rw [hmob (u s) (fun z => d1 s (by rw [z]; grind)), pw_succ]
    have vr : ∀ s, ev (n + 1 + 1) F (-(u s)) = r s * (1 - u s) * ev (n + 1 + 1) (rvf (n + 1) f) (x s) := fun s => by
      have a1 := d1 s
      have a2 := d2 s
      have e := hmob (-(u s)) (fun z => d2 s (by have : u s = -1 := by grind
                                                 rw [this]; grind))
      have q : (1 + -(u s)) / (1 - -(u s)) = 1 / x s := by
        have b := xe s
        have b0 := x0 s
        grind
      rw [e, q, ev_rvf (n + 1) f (x0 s)]
      have p : (1 - -(u s)) ^ (n + 1) = r s * (1 - u s) * x s ^ (n + 1) := by
        have : r s * (1 - u s) = (1 - u s) ^ (n + 1) := (pw_succ _ _).symm
        rw [this, ← pw_mul, show (1 - u s) * x s = 1 - -(u s) by have := xe s; grind]
      rw [p]; grind
    have key : ∀ s t, r s * r t * ev2 (n + 1) (Cm (n + 1) f) (x s) (x t) = ev2 (n + 1) (Kf F) (u s) (u t) := fun s t => by
      have c1 := Cm_ev (n + 1) f (x s) (x t)
      have c2 := Kf_ev hF0 (u s) (u t)
      rw [vf, vf, vr, vr] at c2
      have e1 := xe s
      have e2 := xe t
      have b : (1 - x s * x t) * ((1 - u s) * (1 - u t)) = -(2 * (u s + u t)) := by
        have : x s * x t * ((1 - u s) * (1 - u t)) = (1 + u s) * (1 + u t) := by rw [← e1, ← e2]; grind
        grind
      have c3 : (-(2 * (u s + u t))) * (r s * r t * ev2 (n + 1) (Cm (n + 1) f) (x s) (x t)) = (-(2 * (u s + u t))) * ev2 (n + 1) (Kf F) (u s) (u t) := by
        rw [← b]
        have : (1 - x s * x t) * ((1 - u s) * (1 - u t)) * (r s * r t * ev2 (n + 1) (Cm (n + 1) f) (x s) (x t)) = (r s * (1 - u s)) * (r t * (1 - u t)) * ((1 - x s * x t) * ev2 (n + 1) (Cm (n + 1) f) (x s) (x t)) := by grind
        rw [this, c1, b]
        grind
      have nz : -(2 * (u s + u t)) ≠ 0 := fun z => by have := up s; have := up t; grind
      rcases Rat.mul_eq_zero.mp (show (-(2 * (u s + u t))) * (r s * r t * ev2 (n + 1) (Cm (n + 1) f) (x s) (x t) - ev2 (n + 1) (Kf F) (u s) (u t)) = 0 by grind) with w | w
      · exact absurd w nz
      · grind
    have p1 := h1.pull (fun i s => r s * x s ^ i) (fun lam hz j hj => by
      have := vander (n + 1) x (fun s => r s * lam s) (fun s t _ _ hne => xi s t hne) (fun i hi => by
        have e := hz i hi
        unfold dot at e
        rw [← e]
        exact sm_congr fun s _ => by grind) j hj
      rcases Rat.mul_eq_zero.mp this with w | w
      · exact absurd w (pw_ne (d1 j) n)
      · exact w)
    have p2 := h2.pull (fun i s => eps i * u s ^ i) (fun lam hz j hj => by
      refine vander (n + 1) u lam (fun s t _ _ hne => ui s t hne) (fun i hi => ?_) j hj
      have e := hz i hi
      unfold dot at e
      have e2 : sm (n + 1) (fun s => eps i * u s ^ i * lam s) = eps i * sm (n + 1) (fun s => lam s * u s ^ i) := by rw [← sm_mul]; exact sm_congr fun s _ => by grind
      rw [e2] at e
      rcases Rat.mul_eq_zero.mp e with w | w
      · have := eps_sq i; rw [w] at this; exact absurd this (by decide +kernel)
      · exact w)
    have same : ∀ lam, quadF (n + 1) (Cm (n + 1) f) (fun i => dot (n + 1) (fun s => r s * x s ^ i) lam) = quadF (n + 1) (bz (axB F) (axA F)) (fun i => dot (n + 1) (fun s => eps i * u s ^ i) lam) := fun lam => by
      have a1 : quadF (n + 1) (Cm (n + 1) f) (fun i => dot (n + 1) (fun s => r s * x s ^ i) lam) = quadF (n + 1) (Cm (n + 1) f) (fun i => sm (n + 1) fun s => (lam s * r s) * x s ^ i) := quadF_congr (fun _ _ _ _ => rfl) (fun i _ => by unfold dot; exact sm_congr fun s _ => by grind)
      have a2 : quadF (n + 1) (bz (axB F) (axA F)) (fun i => dot (n + 1) (fun s => eps i * u s ^ i) lam) = quadF (n + 1) (Kf F) (fun i => sm (n + 1) fun s => lam s * u s ^ i) := by
        refine sm_congr fun i _ => sm_congr fun j _ => ?_
        have b : ∀ i, dot (n + 1) (fun s => eps i * u s ^ i) lam = eps i * sm (n + 1) fun s => lam s * u s ^ i := fun i => by
          unfold dot; rw [← sm_mul]; exact sm_congr fun s _ => by grind
        dsimp only
        rw [b, b]
        unfold Kf
        grind
      rw [a1, a2, quadF_ev, quadF_ev]
      refine sm_congr fun s _ => sm_congr fun t _ => ?_
      rw [← key s t]; grind
    have q := p1.same (p2.congr fun lam => (same lam).symm)
    have m1 := cnt_map1 (fs := fs) (fun p => fun j => sm (n + 1) fun i => p.1 i * (r j * x j ^ i))
    have m2 := cnt_map1 (fs := gs) (fun p => fun j => sm (n + 1) fun i => p.1 i * (eps i * u j ^ i))
    rw [m1.1, m2.1, m1.2, m2.2] at q
    exact q
end EM
end

section
set_option Elab.async false
set_option linter.all false
namespace EM
open ShMat
def evL (f : Poly) (a : Rat) : Rat := ev f.length (co f) a
theorem ev_more {N M : Nat} {f : Nat → Rat} (h : N ≤ M) (hz : ∀ i, N ≤ i → f i = 0) (a : Rat) : ev M f a = ev N f a := sm_more h fun i h1 _ => by rw [hz i h1]; grind
theorem evL_more {f : Poly} {N : Nat} (h : f.length ≤ N) (a : Rat) : ev N (co f) a = evL f a := ev_more h (fun i hi => co_out hi) a
theorem ev_add (N : Nat) (f g : Nat → Rat) (a : Rat) : ev N (fun i => f i + g i) a = ev N f a + ev N g a := by unfold ev; rw [← sm_add]; exact sm_congr fun i _ => by grind
theorem ev_mulc (N : Nat) (c : Rat) (f : Nat → Rat) (a : Rat) : ev N (fun i => c * f i) a = c * ev N f a := by unfold ev; rw [← sm_mul]; exact sm_congr fun i _ => by grind
theorem ev_congr {N : Nat} {f g : Nat → Rat} (h : ∀ i, i < N → f i = g i) (a : Rat) : ev N f a = ev N g a := sm_congr fun i hi => by rw [h i hi]
/-- a product's values -/
theorem ev_prod {A B N : Nat} {p q : PS} (hp : ∀ i, A ≤ i → p.c i = 0) (hq : ∀ i, B ≤ i → q.c i = 0) (hN : A + B ≤ N) (a : Rat) : ev N (p * q).c a = ev A p.c a * ev B q.c a := by
  cases N with
  | zero =>
    have e1 : A = 0 := by omega
    subst e1
    show (0 : Rat) = 0 * _; grind
  | succ n =>
    unfold ev
    have e1 : sm (n + 1) (fun i => (p * q).c i * a ^ i) = sm (n + 1) (fun i => sm (i + 1) fun j => p.c j * q.c (i - j) * a ^ i) := sm_congr fun i _ => by
      rw [PS.mul_c, Rat.mul_comm, ← sm_mul]; exact sm_congr fun j _ => by grind
    rw [e1, sm_swap n (fun i j => p.c j * q.c (i - j) * a ^ i)]
    have e2 : sm (n + 1) (fun j => sm (n - j + 1) fun l => p.c j * q.c (j + l - j) * a ^ (j + l)) = sm (n + 1) (fun j => sm B (fun l => q.c l * a ^ l) * (p.c j * a ^ j)) := sm_congr fun j hj => by
      by_cases c : A ≤ j
      · rw [hp j c, sm_zero (fun l _ => by grind)]; grind
      · rw [sm_more (n := B) (by omega) (fun l h1 _ => by rw [show j + l - j = l by omega, hq l h1]; grind), Rat.mul_comm, ← sm_mul]
        exact sm_congr fun l _ => by rw [show j + l - j = l by omega, pw_add]; grind
    have e3 : sm (n + 1) (fun j => p.c j * a ^ j) = sm A (fun j => p.c j * a ^ j) := sm_more (by omega) (fun i h1 _ => by rw [hp i h1]; grind)
    rw [e2, sm_mul, e3]; grind
theorem evL_mul {f g h : Poly} (e : toP h = toP f * toP g) (a : Rat) : evL h a = evL f a * evL g a := by
  have h1 := evL_more (f := h) (N := h.length + f.length + g.length) (by omega) a
  rw [← h1]
  have e2 : (fun i => co h i) = (toP f * toP g).c := by rw [← e]; rfl
  show ev _ (fun i => co h i) a = _
  rw [e2]
  exact ev_prod (fun i hi => co_out hi) (fun i hi => co_out hi) (by omega) a
/-- as many values as one likes tell a polynomial -/
theorem ev_inj {N : Nat} {f : Nat → Rat} (h : ∀ s : Nat, ev N f ((s + 2 : Nat) : Rat) = 0) : ∀ i, i < N → f i = 0 := by
  -- the transposed of Vandermonde's: by unknowns and equations
  apply Classical.byContradiction
  intro hno
  -- N functionals, the values at N points, on N unknowns: independent, so they span
  have key : ∀ i, i < N → f i = 0 := by
    intro i hi
    -- a relation between unit i and the values
    obtain ⟨z, ⟨s, hs, hz0⟩, hz⟩ := span_dep (n := N) (r := N + 1) (k := N) (by omega) (u := fun q t => if q = N then (if t = i then 1 else 0) else (((q + 2 : Nat) : Rat)) ^ t) (v := fun l t => if t = l then 1 else 0) (C := fun q l => if q = N then (if l = i then 1 else 0) else (((q + 2 : Nat) : Rat)) ^ l) (fun q hq t ht => by
      rw [sm_one ht (fun l _ ne => by show _ * (if t = l then (1 : Rat) else 0) = 0; rw [if_neg (show ¬ t = l from fun z => ne z.symm)]; grind)]
      show _ = _ * (if t = t then (1 : Rat) else 0)
      rw [if_pos rfl]; grind)
    have hz' : ∀ t, t < N → sm N (fun q => z q * (((q + 2 : Nat) : Rat)) ^ t) + z N * (if t = i then 1 else 0) = 0 := fun t ht => by
      have := hz t ht
      have e1 : sm (N + 1) (fun q => z q * (if q = N then (if t = i then 1 else 0) else (((q + 2 : Nat) : Rat)) ^ t)) = sm N (fun q => z q * (((q + 2 : Nat) : Rat)) ^ t) + z N * (if t = i then 1 else 0) := by
        show sm N _ + z N * (if N = N then _ else _) = _
        rw [if_pos rfl]
        congr 1
        exact sm_congr fun q hq => by rw [if_neg (by omega)]
      rw [← e1]; exact this
    have zn : z N ≠ 0 := fun w => by
      have all := vander N (fun q => ((q + 2 : Nat) : Rat)) z (fun a b _ _ hne zz => hne (by
        have zz : ((a + 2 : Nat) : Rat) = ((b + 2 : Nat) : Rat) := zz
        have : a + 2 = b + 2 := by exact_mod_cast zz
        omega)) (fun t ht => by have := hz' t ht; rw [w] at this; grind)
      by_cases e : s = N
      · exact hz0 (by rw [e]; exact w)
      · exact hz0 (all s (by omega))
    -- against f
    have tot : sm N (fun t => f t * (sm N (fun q => z q * (((q + 2 : Nat) : Rat)) ^ t) + z N * (if t = i then 1 else 0))) = 0 := sm_zero fun t ht => by rw [hz' t ht]; grind
    have split : sm N (fun t => f t * (sm N (fun q => z q * (((q + 2 : Nat) : Rat)) ^ t) + z N * (if t = i then 1 else 0))) = sm N (fun q => z q * ev N f (((q + 2 : Nat) : Rat))) + z N * f i := by
      have a1 : sm N (fun t => f t * (sm N (fun q => z q * (((q + 2 : Nat) : Rat)) ^ t) + z N * (if t = i then 1 else 0))) = sm N (fun t => sm N (fun q => z q * (f t * (((q + 2 : Nat) : Rat)) ^ t))) + sm N (fun t => (if t = i then z N else 0) * f t) := by
        rw [← sm_add]
        refine sm_congr fun t _ => ?_
        have b : sm N (fun q => z q * (f t * (((q + 2 : Nat) : Rat)) ^ t)) = f t * sm N (fun q => z q * (((q + 2 : Nat) : Rat)) ^ t) := by rw [← sm_mul]; exact sm_congr fun q _ => by grind
        rw [b]
        by_cases c : t = i
        · rw [if_pos c, if_pos c]; grind
        · rw [if_neg c, if_neg c]; grind
      rw [a1, sm_sw, sm_ind hi]
      congr 1
      exact sm_congr fun q _ => by rw [sm_mul]; rfl
    rw [split, sm_zero (fun q _ => by rw [h q]; grind), Rat.zero_add] at tot
    rcases Rat.mul_eq_zero.mp tot with w | w
    · exact absurd w zn
    · exact w
  exact hno key
theorem ev_inj2 {N : Nat} {f g : Nat → Rat} (h : ∀ s : Nat, ev N f ((s + 2 : Nat) : Rat) = ev N g ((s + 2 : Nat) : Rat)) : ∀ i, i < N → f i = g i := fun i hi => by
  have := ev_inj (N := N) (f := fun i => f i + (-1) * g i) (fun s => by rw [ev_add, ev_mulc, h s]; grind) i hi
  grind
def Dvs (e f : Poly) : Prop := ∃ u : Poly, toP f = toP u * toP e
theorem Dvs.refl (f : Poly) : Dvs f f := ⟨[1], by
  have : toP [1] = 1 := by ext k; show co [1] k = _; cases k with | zero => rfl | succ k => rw [co_out (by simp)]; rfl
  rw [this]; grind⟩
theorem Dvs.zero {e f : Poly} (h : trim f = []) : Dvs e f := ⟨[], by rw [← toP_trim f, h, toP_nil]; grind⟩
theorem Dvs.lin {e f g : Poly} (h1 : Dvs e f) (h2 : Dvs e g) (q : Poly) {r : Poly} (hr : toP r = toP f + toP q * toP g) : Dvs e r := by
  obtain ⟨u, hu⟩ := h1
  obtain ⟨v, hv⟩ := h2
  exact ⟨pplus u (ptimes q v), by rw [hr, hu, hv, toP_pplus, toP_ptimes]; grind⟩
theorem Dvs.smul {e f f' : Poly} (h : Dvs e f) {c : Rat} (hc : toP f' = PS.cst c * toP f) : Dvs e f' := by
  obtain ⟨u, hu⟩ := h
  exact ⟨smulP c u, by rw [hc, hu, toP_smul]; grind⟩
theorem monic_P {f : Poly} (h : trim f ≠ []) : ∃ c : Rat, c ≠ 0 ∧ toP (monic f) = PS.cst c * toP f := by
  have l0 : leading (trim f) ≠ 0 := by rw [leading_co]; exact (trim_tr f).last h
  have ci : (1 / leading (trim f)) ≠ 0 := fun z => by
    have := inv_ne l0
    rw [z, Rat.mul_zero] at this
    exact absurd this (by decide +kernel)
  refine ⟨1 / leading (trim f), ci, ?_⟩
  rw [← toP_trim f, ← toP_smul]
  congr 1
  unfold monic smulP
  exact List.map_congr_left fun q _ => by rw [Rat.div_def, Rat.div_def]; grind
theorem monic_tr (f : Poly) : Tr (monic f) := by
  by_cases h : trim f = []
  · left; unfold monic; rw [h]; rfl
  · have l0 : leading (trim f) ≠ 0 := by rw [leading_co]; exact (trim_tr f).last h
    have ci : (1 / leading (trim f)) ≠ 0 := fun z => by
      have := inv_ne l0
      rw [z, Rat.mul_zero] at this
      exact absurd this (by decide +kernel)
    have e : monic f = smulP (1 / leading (trim f)) (trim f) := by
      unfold monic smulP
      exact List.map_congr_left fun q _ => by rw [Rat.div_def, Rat.div_def]; grind
    rw [e]; exact smul_tr ci (trim_tr f)
theorem common_spec : ∀ (n : Nat) (f g : Poly), (trim g).length ≤ n → (trim f ≠ [] ∨ trim g ≠ []) → Dvs (commonFrom n f g) f ∧ Dvs (commonFrom n f g) g ∧ (∀ e, Dvs e f → Dvs e g → Dvs e (commonFrom n f g)) ∧ Tr (commonFrom n f g) ∧ commonFrom n f g ≠ [] := by
  have base : ∀ f g : Poly, trim g = [] → trim f ≠ [] → Dvs (monic f) f ∧ Dvs (monic f) g ∧ (∀ e, Dvs e f → Dvs e g → Dvs e (monic f)) ∧ Tr (monic f) ∧ monic f ≠ [] := fun f g hg hf => by
    obtain ⟨c, c0, hc⟩ := monic_P hf
    refine ⟨⟨[1 / c], ?_⟩, Dvs.zero hg, fun e h1 _ => h1.smul hc, monic_tr f, fun z => hf ?_⟩
    · have t1 : toP [1 / c] = PS.cst (1 / c) := by ext k; show co [1 / c] k = if k = 0 then _ else _; cases k with | zero => rfl | succ k => rw [co_out (by simp), if_neg (by omega)]
      rw [hc, t1]
      have : PS.cst (1 / c) * (PS.cst c * toP f) = PS.cst (1 / c) * PS.cst c * toP f := by grind
      rw [this, cst_cst, show 1 / c * c = 1 by have := inv_ne c0; grind]
      show _ = (1 : PS) * _
      grind
    · unfold monic at z
      exact List.map_eq_nil_iff.mp z
  intro n
  induction n with
  | zero =>
    intro f g hl hn
    have e : trim g = [] := List.length_eq_zero_iff.mp (by omega)
    rcases hn with h | h
    · exact base f g e h
    · exact absurd e h
  | succ n ih =>
    intro f g hl hn
    have e0 : commonFrom (n + 1) f g = if trim g = [] then monic f else commonFrom n g (divide f g).2 := rfl
    rw [e0]
    by_cases e : trim g = []
    · rw [if_pos e]
      rcases hn with h | h
      · exact base f g e h
      · exact absurd e h
    · rw [if_neg e]
      obtain ⟨d1, d2, d3, d4⟩ := divide_spec (f := f) e
      obtain ⟨a1, a2, a3, a4, a5⟩ := ih g (divide f g).2 (by rw [trim_of_tr d3]; omega) (.inl e)
      refine ⟨a2.lin a1 (divide f g).1 (by rw [d1]; grind), a1, fun e' h1 h2 => a3 e' h2 (h1.lin h2 (pneg (divide f g).1) (by rw [toP_pneg]; grind)), a4, a5⟩
theorem common_ok {h k : Poly} (hh : Tr h) (nh : h ≠ []) : Dvs (common h k) h ∧ Dvs (common h k) k ∧ (∀ e, Dvs e h → Dvs e k → Dvs e (common h k)) ∧ Tr (common h k) ∧ common h k ≠ [] := by
  unfold common
  have tl := trim_len k
  obtain ⟨a1, a2, a3, a4, a5⟩ := common_spec (h.length + k.length + 1) (trim h) (trim k) (by rw [trim_of_tr (trim_tr k)]; omega) (.inl (by rw [trim_of_tr (trim_tr h), trim_of_tr hh]; exact nh))
  have t1 : toP (trim h) = toP h := toP_trim h
  have t2 : toP (trim k) = toP k := toP_trim k
  refine ⟨?_, ?_, fun e he1 he2 => a3 e ?_ ?_, a4, a5⟩
  · obtain ⟨u, hu⟩ := a1; exact ⟨u, by rw [← t1]; exact hu⟩
  · obtain ⟨u, hu⟩ := a2; exact ⟨u, by rw [← t2]; exact hu⟩
  · obtain ⟨u, hu⟩ := he1; exact ⟨u, by rw [t1]; exact hu⟩
  · obtain ⟨u, hu⟩ := he2; exact ⟨u, by rw [t2]; exact hu⟩
theorem co_rev {f : Poly} (nf : f ≠ []) (i : Nat) : co f.reverse i = rvf (f.length - 1) (co f) i := by
  have hl : 0 < f.length := List.length_pos_iff.mpr nf
  unfold rvf
  by_cases h : i ≤ f.length - 1
  · rw [if_pos h]
    unfold co
    rw [List.getD_eq_getElem?_getD, List.getD_eq_getElem?_getD, List.getElem?_reverse (by omega), show f.length - 1 - i = f.length - 1 - i from rfl]
  · rw [if_neg h]; exact co_out (by rw [List.length_reverse]; omega)
theorem evL_rev {f : Poly} (nf : f ≠ []) {a : Rat} (ha : a ≠ 0) : evL f.reverse a = a ^ (f.length - 1) * evL f (1 / a) := by
  have hl : 0 < f.length := List.length_pos_iff.mpr nf
  have e := ev_rvf (f.length - 1) (co f) ha
  rw [show f.length - 1 + 1 = f.length by omega] at e
  show ev f.reverse.length (co f.reverse) a = _
  rw [List.length_reverse, ev_congr (fun i _ => co_rev nf i)]
  exact e
theorem rev_tr {f : Poly} (nf : f ≠ []) (h0 : co f 0 ≠ 0) : Tr f.reverse := by
  right
  have hl : 0 < f.length := List.length_pos_iff.mpr nf
  have e : f.reverse.getLastD 0 = co f.reverse (f.reverse.length - 1) := leading_co
  rw [e, co_rev nf, List.length_reverse]
  unfold rvf
  rw [if_pos (by omega), Nat.sub_self]; exact h0
theorem pt_ne (s : Nat) : ((s + 2 : Nat) : Rat) ≠ 0 := fun z => by
  have : s + 2 = 0 := by exact_mod_cast z
  omega
theorem rev_mul {h u e : Poly} (hh : Tr h) (hu : Tr u) (he : Tr e) (nu : u ≠ []) (ne : e ≠ []) (E : toP h = toP u * toP e) : h.length + 1 = u.length + e.length ∧ h ≠ [] ∧ toP h.reverse = toP u.reverse * toP e.reverse := by
  have eh : h = ptimes u e := hh.toP_inj (ptimes_tr u e) (by rw [toP_ptimes, E])
  have l1 : 0 < u.length := List.length_pos_iff.mpr nu
  have l2 : 0 < e.length := List.length_pos_iff.mpr ne
  have hl : h.length = u.length + e.length - 1 := by rw [eh]; exact ptimes_len hu he nu ne
  have nh : h ≠ [] := fun z => by rw [z] at hl; simp at hl; omega
  refine ⟨by omega, nh, ?_⟩
  -- by values
  have N := h.length
  have key := ev_inj2 (N := u.length + e.length) (f := co h.reverse) (g := (toP u.reverse * toP e.reverse).c) (fun s => by
    have a0 := pt_ne s
    rw [evL_more (by rw [List.length_reverse]; omega), ev_prod (A := u.reverse.length) (B := e.reverse.length) (fun i hi => co_out hi) (fun i hi => co_out hi) (by rw [List.length_reverse, List.length_reverse]; omega)]
    show _ = evL u.reverse _ * evL e.reverse _
    rw [evL_rev nh a0, evL_rev nu a0, evL_rev ne a0, evL_mul E, show h.length - 1 = (u.length - 1) + (e.length - 1) by omega, pw_add]; grind)
  ext k
  by_cases c : k < u.length + e.length
  · exact key k c
  · show co h.reverse k = _
    rw [co_out (by rw [List.length_reverse]; omega), mul_out (by rw [List.length_reverse, List.length_reverse]; omega)]
theorem co_mul0 {h u e : Poly} (E : toP h = toP u * toP e) : co h 0 = co u 0 * co e 0 := by
  have := congrArg (fun p => PS.c p 0) E
  simp only [PS.mul_c] at this
  have e2 : sm (0 + 1) (fun i => (toP u).c i * (toP e).c (0 - i)) = co u 0 * co e 0 := by
    show (0 : Rat) + co u 0 * co e 0 = _; grind
  rw [e2] at this
  exact this
/-- what h and h reversed have in common is its own reversed, up to a sign -/
theorem self_rev {h : Poly} (hh : Tr h) (nh : h ≠ []) (h0 : co h 0 ≠ 0) : ∃ (q : Poly) (c : Rat), Tr q ∧ q ≠ [] ∧ co q 0 ≠ 0 ∧ co (common h h.reverse) 0 ≠ 0 ∧ (common h h.reverse) ≠ [] ∧ Tr (common h h.reverse) ∧ toP h = toP q * toP (common h h.reverse) ∧ divide h (common h h.reverse) = (q, []) ∧ c * c = 1 ∧ toP (common h h.reverse).reverse = PS.cst c * toP (common h h.reverse) ∧ (∀ e, Dvs e h → Dvs e h.reverse → Dvs e (common h h.reverse)) := by
  obtain ⟨⟨u, hu⟩, ⟨v, hv⟩, a3, a4, a5⟩ := common_ok (k := h.reverse) hh nh
  generalize common h h.reverse = g at *
  have trev := rev_tr nh h0
  have nrev : h.reverse ≠ [] := fun z => nh (List.reverse_eq_nil_iff.mp z)
  have hu' : toP h = toP (trim u) * toP g := by rw [toP_trim]; exact hu
  have hv' : toP h.reverse = toP (trim v) * toP g := by rw [toP_trim]; exact hv
  have nu : trim u ≠ [] := fun z => nh (by
    rw [z, toP_nil] at hu'
    exact hh.toP_inj (.inl rfl) (by rw [hu', toP_nil]; grind))
  have nv : trim v ≠ [] := fun z => nrev (by
    rw [z, toP_nil] at hv'
    exact trev.toP_inj (.inl rfl) (by rw [hv', toP_nil]; grind))
  have c0 := co_mul0 hu'
  have u0 : co (trim u) 0 ≠ 0 := fun z => h0 (by rw [c0, z]; grind)
  have g0 : co g 0 ≠ 0 := fun z => h0 (by rw [c0, z]; grind)
  obtain ⟨l1, _, r1⟩ := rev_mul hh (trim_tr u) a4 nu a5 hu'
  obtain ⟨l2, _, r2⟩ := rev_mul trev (trim_tr v) a4 nv a5 hv'
  rw [List.reverse_reverse] at r2
  have ng : g.reverse ≠ [] := fun z => a5 (List.reverse_eq_nil_iff.mp z)
  have tg := rev_tr a5 g0
  obtain ⟨w, hw⟩ := a3 g.reverse ⟨_, r2⟩ ⟨_, r1⟩
  have hw' : toP g = toP (trim w) * toP g.reverse := by rw [toP_trim]; exact hw
  have nw : trim w ≠ [] := fun z => a5 (by
    rw [z, toP_nil] at hw'
    exact a4.toP_inj (.inl rfl) (by rw [hw', toP_nil]; grind))
  obtain ⟨l3, _, _⟩ := rev_mul a4 (trim_tr w) tg nw ng hw'
  rw [List.length_reverse] at l3
  have wl : (trim w).length = 1 := by omega
  obtain ⟨c, hc⟩ : ∃ c, trim w = [c] := List.length_eq_one_iff.mp wl
  have tc : toP [c] = PS.cst c := by ext k; show co [c] k = if k = 0 then _ else _; cases k with | zero => rfl | succ k => rw [co_out (by simp), if_neg (by omega)]
  rw [hc, tc] at hw'
  have cg : ∀ i, co g i = c * co g.reverse i := fun i => by
    have := congrArg (fun p => PS.c p i) hw'
    simp only [PS.cst_mul] at this
    exact this
  have gl : 0 < g.length := List.length_pos_iff.mpr a5
  have e1 := cg 0
  have e2 := cg (g.length - 1)
  rw [co_rev a5] at e1 e2
  unfold rvf at e1 e2
  rw [if_pos (by omega), Nat.sub_zero] at e1
  rw [if_pos (by omega), Nat.sub_self] at e2
  have cc : c * c = 1 := by
    rw [e2] at e1
    have : (c * c - 1) * co g 0 = 0 := by grind
    rcases Rat.mul_eq_zero.mp this with z | z
    · grind
    · exact absurd z g0
  refine ⟨trim u, c, trim_tr u, nu, u0, g0, a5, a4, hu', ?_, cc, ?_, a3⟩
  · exact divide_eq (by rw [trim_of_tr a4]; exact a5) (trim_tr u) (.inl rfl) (by rw [trim_of_tr a4]; exact gl) (by rw [hu', toP_nil]; grind)
  · rw [hw']
    have : PS.cst c * (PS.cst c * toP g.reverse) = PS.cst c * PS.cst c * toP g.reverse := by grind
    rw [this, cst_cst, cc]
    show _ = (1 : PS) * _
    grind
theorem signs_sqs {n : Nat} {a : Mat} {M : Nat → Nat → Rat} (hl : a.length = n) (hr : ∀ r ∈ a, r.length = n) (hM : ∀ i, i < n → ∀ j, j < n → at_ a i j = M i j) (hs : ∀ i j, M i j = M j i) : ∃ fs, Sqs n (quadF n M) fs ∧ cntP fs = (signs a).1 ∧ cntN fs = (signs a).2.1 := by
  have st : Left n (quadL (List.range n) M) (List.range n) M [] := Left.start (fun i _ j _ => hs i j)
  obtain ⟨S', fs', g1, g2, g3, g4⟩ := signsFrom_left n a (List.range n) M [] st (by simp) ⟨by simpa using hl, by simpa using hr⟩ (fun k m hk hm => by
    have hk : k < n := by simpa using hk
    have hm : m < n := by simpa using hm
    simp only [List.getElem_range]
    exact hM k hk m hm)
  have hsg : signs a = signsFrom n a := by unfold signs rows; rw [hl]
  have lsm : ∀ (f : Nat → Rat) (n : Nat), ls (List.range n) f = sm n f := fun f n => by
    have app : ∀ (l k : List Nat), ls (l ++ k) f = ls l f + ls k f := fun l k => by
      induction l with
      | nil => show ls k f = 0 + ls k f; grind
      | cons i l ih => show f i + ls (l ++ k) f = (f i + ls l f) + ls k f; rw [ih]; grind
    induction n with
    | zero => rfl
    | succ n ih => rw [List.range_succ, app, ih]; show sm n f + (f n + 0) = sm n f + f n; grind
  have qe : ∀ x, quadL (List.range n) M x = quadF n M x := fun x => by
    unfold quadL quadF
    rw [lsm]
    exact sm_congr fun i _ => lsm _ _
  refine ⟨fs', Sqs.mk (by simpa using g1.len) (fun x => ?_) (fun x hf => g1.inj x hf (by simp)), by rw [g2, hsg]; show 0 + _ = _; omega, by rw [g3, hsg]; show 0 + _ = _; omega⟩
  rw [← qe x, g1.eq x]; show _ + (0 : Rat) = _; rw [Rat.add_zero]
theorem cf_at (q : Poly) {i j : Nat} (hi : i < q.length - 1) (hj : j < q.length - 1) : at_ (circleForm q) i j = Cm (q.length - 1) (co q) i j := by
  unfold circleForm
  rw [at_make hi hj, total_sm']
  unfold Cm
  refine sm_congr fun k hk => ?_
  unfold rvf
  rw [if_pos (by omega), if_pos (by omega), show q.length - 1 - (i - k) = q.length - 1 - i + k by omega, show q.length - 1 - (j - k) = q.length - 1 - j + k by omega]
theorem cf_sqs (q : Poly) : ∃ fs, Sqs (q.length - 1) (quadF (q.length - 1) (Cm (q.length - 1) (co q))) fs ∧ cntP fs = (signs (circleForm q)).1 ∧ cntN fs = (signs (circleForm q)).2.1 := by
  refine signs_sqs (by unfold circleForm; exact make_len _ _ _) (by unfold circleForm; exact make_row) (fun i hi j hj => cf_at q hi hj) (Cm_sym _ _)
theorem ev2_inj {N : Nat} {M M' : Nat → Nat → Rat} (h : ∀ s t : Nat, ev2 N M ((s + 2 : Nat) : Rat) ((t + 2 : Nat) : Rat) = ev2 N M' ((s + 2 : Nat) : Rat) ((t + 2 : Nat) : Rat)) : ∀ i, i < N → ∀ j, j < N → M i j = M' i j := fun i hi => by
  have e : ∀ (M : Nat → Nat → Rat) (a b : Rat), ev2 N M a b = ev N (fun i => ev N (M i) b) a := fun M a b => by
    unfold ev2 ev
    refine sm_congr fun i _ => ?_
    rw [Rat.mul_comm, ← sm_mul]
    exact sm_congr fun j _ => by grind
  refine ev_inj2 fun t => ?_
  exact ev_inj2 (N := N) (f := fun i => ev N (M i) ((t + 2 : Nat) : Rat)) (g := fun i => ev N (M' i) ((t + 2 : Nat) : Rat)) (fun s => by rw [← e, ← e]; exact h s t) i hi
theorem ev_shf {l N M : Nat} {f : Nat → Rat} (hf : ∀ i, M ≤ i → f i = 0) (h : l + M ≤ N) (a : Rat) : ev N (shf l f) a = a ^ l * ev M f a := by
  unfold ev
  have e : ∀ (l N : Nat), l ≤ N → sm N (fun i => shf l f i * a ^ i) = sm (N - l) (fun i => f i * a ^ (i + l)) := fun l => by
    induction l with
    | zero => intro N _; rw [shf_zero]; exact sm_congr fun i _ => rfl
    | succ l ih =>
      intro N hN
      obtain ⟨n, rfl⟩ : ∃ n, N = n + 1 := ⟨N - 1, by omega⟩
      rw [sm_first', shf_succ0, Rat.zero_mul, Rat.zero_add]
      have : sm n (fun i => shf (l + 1) f (i + 1) * a ^ (i + 1)) = a * sm n (fun i => shf l f i * a ^ i) := by
        rw [← sm_mul]; exact sm_congr fun i _ => by rw [shf_succ, pw_succ]; grind
      rw [this, ih n (by omega), ← sm_mul, show n + 1 - (l + 1) = n - l by omega]
      exact sm_congr fun i _ => by rw [← Nat.add_assoc, pw_succ]; grind
  rw [e l N (by omega), ← sm_mul, sm_more (n := M) (by omega) (fun i h1 _ => by rw [hf i h1]; grind)]
  exact sm_congr fun i _ => by rw [pw_add]; grind
theorem Sqs.units (k : Nat) : ∃ fs, Sqs k (fun x => sm k fun l => x l * x l) fs ∧ cntP fs = k ∧ cntN fs = 0 := by
  have fold : ∀ (m : Nat) (x : Nat → Rat), m ≤ k → ((List.range m).map (fun i => (((fun t => if t = i then 1 else 0) : Nat → Rat), (1 : Rat)))).foldr (fun p s => p.2 * (dot k p.1 x * dot k p.1 x) + s) 0 = sm m fun l => x l * x l := fun m x => by
    induction m with
    | zero => intro _; rfl
    | succ m ih =>
      intro hm
      rw [List.range_succ, List.map_append, List.foldr_append, foldr_sq, ih (by omega)]
      show _ + (1 * (dot k _ x * dot k _ x) + 0) = _ + _
      rw [dot_unit (by omega)]; grind
  have all : ∀ m : Nat, cntP ((List.range m).map (fun i => (((fun t => if t = i then 1 else 0) : Nat → Rat), (1 : Rat)))) = m ∧ cntN ((List.range m).map (fun i => (((fun t => if t = i then 1 else 0) : Nat → Rat), (1 : Rat)))) = 0 := fun m => by
    have d1 : (0 : Rat) < 1 := by decide +kernel
    have d2 : ¬ (1 : Rat) < 0 := by decide +kernel
    unfold cntP cntN
    rw [List.filter_map, List.filter_map, List.length_map, List.length_map]
    constructor
    · have : List.filter ((fun p : (Nat → Rat) × Rat => decide (0 < p.2)) ∘ fun i => (((fun t => if t = i then 1 else 0) : Nat → Rat), (1 : Rat))) (List.range m) = List.range m := List.filter_eq_self.mpr (fun i _ => decide_eq_true d1)
      rw [this, List.length_range]
    · have : List.filter ((fun p : (Nat → Rat) × Rat => decide (p.2 < 0)) ∘ fun i => (((fun t => if t = i then 1 else 0) : Nat → Rat), (1 : Rat))) (List.range m) = [] := by
        rw [List.filter_eq_nil_iff]; intro i _; show ¬ decide ((1 : Rat) < 0) = true; rw [decide_eq_false d2]; decide
      rw [this]; rfl
  refine ⟨(List.range k).map (fun i => ((fun t => if t = i then 1 else 0), 1)), Sqs.mk (by simp) (fun x => (fold k x (Nat.le_refl _)).symm) (fun x hf j hj => ?_), (all k).1, (all k).2⟩
  have := hf _ (List.mem_map.mpr ⟨j, List.mem_range.mpr hj, rfl⟩)
  rwa [dot_unit hj] at this
/-- the form of f = x^z g q, from that of q -/
theorem circ_parts {z : Nat} {f h g q : Poly} {c : Rat} (hf : ∀ i, co f i = shf z (co h) i) (fl : f.length = z + h.length) (nh : h ≠ []) (hh : Tr h) (ng : g ≠ []) (hg : Tr g) (nq : q ≠ []) (hq : Tr q) (E : toP h = toP q * toP g) (cc : c * c = 1) (hr : toP g.reverse = PS.cst c * toP g) :
    ∃ fs, Sqs (f.length - 1) (quadF (f.length - 1) (Cm (f.length - 1) (co f))) fs ∧ cntP fs = z + (signs (circleForm q)).1 ∧ cntN fs = (signs (circleForm q)).2.1 := by
  obtain ⟨hl, _, hrev⟩ := rev_mul hh hq hg nq ng E
  have l1 : 0 < q.length := List.length_pos_iff.mpr nq
  have l2 : 0 < g.length := List.length_pos_iff.mpr ng
  have l3 : 0 < h.length := List.length_pos_iff.mpr nh
  obtain ⟨fq, q1, q2, q3⟩ := cf_sqs q
  obtain ⟨fz', z1, z2, z3⟩ := Sqs.zero (g.length - 1) (fun _ => 0) (fun _ => rfl)
  have gn : co g (g.length - 1) ≠ 0 := hg.last ng
  have hn : co h (h.length - 1) ≠ 0 := hh.last nh
  obtain ⟨fh, h1, h2, h3⟩ := Sqs.join (N := h.length - 1) (d := g.length - 1) (k := q.length - 1) (q := co g) (by omega) gn (fun i hi => co_out (by omega)) q1 z1 (Q := fun x => quadF (q.length - 1) (Cm (q.length - 1) (co q)) (fun l => dot (h.length - 1) (shf l (co g)) x)) (a := 1) (b := 1) (by decide) (by decide) (fun x => by rw [Rat.one_mul, Rat.one_mul, Rat.add_zero])
  obtain ⟨fu, u1, u2, u3⟩ := Sqs.units z
  obtain ⟨ff, f1, f2, f3⟩ := Sqs.join (N := f.length - 1) (d := h.length - 1) (k := z) (q := co h) (by omega) hn (fun i hi => co_out (by omega)) u1 h1 (Q := fun x => (sm z fun l => dot (f.length - 1) (shf l (co h)) x * dot (f.length - 1) (shf l (co h)) x) + quadF (q.length - 1) (Cm (q.length - 1) (co q)) (fun l => dot (h.length - 1) (shf l (co g)) x)) (a := 1) (b := 1) (by decide) (by decide) (fun x => by rw [Rat.one_mul, Rat.one_mul])
  refine ⟨ff, f1.congr fun x => ?_, by rw [f2, h2, u2, q2, z2]; omega, by rw [f3, h3, u3, q3, z3]; omega⟩
  -- one matrix
  have em : ∀ i, i < f.length - 1 → ∀ j, j < f.length - 1 → (sm z fun l => shf l (co h) i * shf l (co h) j) + (sm (q.length - 1) fun a => sm (q.length - 1) fun b => Cm (q.length - 1) (co q) a b * (shf a (co g) i * shf b (co g) j)) = Cm (f.length - 1) (co f) i j := by
    refine ev2_inj fun s t => ?_
    generalize hx : ((s + 2 : Nat) : Rat) = x
    generalize hy : ((t + 2 : Nat) : Rat) = y
    have x2 : (2 : Rat) ≤ x := by rw [← hx]; have : ((2 : Nat) : Rat) ≤ ((s + 2 : Nat) : Rat) := by exact_mod_cast (show 2 ≤ s + 2 by omega)
                                  exact this
    have y2 : (2 : Rat) ≤ y := by rw [← hy]; have : ((2 : Nat) : Rat) ≤ ((t + 2 : Nat) : Rat) := by exact_mod_cast (show 2 ≤ t + 2 by omega)
                                  exact this
    have x0 : x ≠ 0 := by rw [← hx]; exact pt_ne s
    have y0 : y ≠ 0 := by rw [← hy]; exact pt_ne t
    have xy : 1 - x * y ≠ 0 := fun w => by
      have := Rat.mul_nonneg (show 0 ≤ x - 2 by grind) (show 0 ≤ y - 2 by grind)
      grind
    have ef := Cm_ev (f.length - 1) (co f) x y
    have eq := Cm_ev (q.length - 1) (co q) x y
    rw [show f.length - 1 + 1 = f.length by omega] at ef
    rw [show q.length - 1 + 1 = q.length by omega] at eq
    -- values of f and of f reversed
    have vf : ∀ a, ev f.length (co f) a = a ^ z * evL h a := fun a => by
      rw [ev_congr (fun i _ => hf i)]
      exact ev_shf (fun i hi => co_out hi) (by omega) a
    have vfr : ∀ a, a ≠ 0 → ev f.length (rvf (f.length - 1) (co f)) a = evL h.reverse a := fun a ha => by
      have e := ev_rvf (f.length - 1) (co f) ha
      rw [show f.length - 1 + 1 = f.length by omega, vf] at e
      rw [e, evL_rev nh ha, show f.length - 1 = (h.length - 1) + z by omega, pw_add]
      have i1 := inv_ne ha
      have : a ^ z * (1 / a) ^ z = 1 := by rw [← pw_mul, i1, one_pw]
      grind
    have vq : ∀ a, ev q.length (co q) a = evL q a := fun a => rfl
    have vqr : ∀ a, a ≠ 0 → ev q.length (rvf (q.length - 1) (co q)) a = evL q.reverse a := fun a ha => by
      show _ = ev q.reverse.length (co q.reverse) a
      rw [List.length_reverse, ev_congr (fun i _ => (co_rev nq i).symm)]
    have hqg : ∀ a, evL h a = evL q a * evL g a := fun a => evL_mul E a
    have hqr : ∀ a, evL h.reverse a = evL q.reverse a * evL g.reverse a := fun a => evL_mul hrev a
    have ggr : ∀ a, evL g.reverse a = c * evL g a := fun a => by
      have tc : toP [c] = PS.cst c := by ext k; show co [c] k = if k = 0 then _ else _; cases k with | zero => rfl | succ k => rw [co_out (by simp), if_neg (by omega)]
      have := evL_mul (f := [c]) (g := g) (h := g.reverse) (by rw [tc]; exact hr) a
      rw [this]
      congr 1
      show (0 : Rat) + c * a ^ 0 = c
      rw [pw_zero]; grind
    rw [vf, vf, vfr x x0, vfr y y0] at ef
    rw [vq, vq, vqr x x0, vqr y y0] at eq
    -- values of the parts
    have p1 : ev2 (f.length - 1) (fun i j => sm z fun l => shf l (co h) i * shf l (co h) j) x y = sm z fun l => (x * y) ^ l * (evL h x * evL h y) := by
      have : ev2 (f.length - 1) (fun i j => sm z fun l => shf l (co h) i * shf l (co h) j) x y = sm z fun l => ev (f.length - 1) (shf l (co h)) x * ev (f.length - 1) (shf l (co h)) y := by
        have g0 : ∀ k, ev2 (f.length - 1) (fun i j => sm k fun l => shf l (co h) i * shf l (co h) j) x y = sm k fun l => ev (f.length - 1) (shf l (co h)) x * ev (f.length - 1) (shf l (co h)) y := fun k => by
          induction k with
          | zero => exact sm_zero fun i _ => sm_zero fun j _ => by show (0 : Rat) * _ = 0; grind
          | succ k ih =>
            show ev2 _ (fun i j => (sm k fun l => shf l (co h) i * shf l (co h) j) + shf k (co h) i * shf k (co h) j) x y = _ + _
            rw [ev2_add, ih, ev2_prod]
        exact g0 z
      rw [this]
      refine sm_congr fun l hl' => ?_
      rw [ev_shf (M := h.length) (fun i hi => co_out hi) (by omega), ev_shf (M := h.length) (fun i hi => co_out hi) (by omega), pw_mul]
      show x ^ l * evL h x * (y ^ l * evL h y) = _
      grind
    have p2 : ev2 (f.length - 1) (fun i j => sm (q.length - 1) fun a => sm (q.length - 1) fun b => Cm (q.length - 1) (co q) a b * (shf a (co g) i * shf b (co g) j)) x y = evL g x * evL g y * ev2 (q.length - 1) (Cm (q.length - 1) (co q)) x y := by
      have g1 : ∀ (k m : Nat) (C : Nat → Nat → Rat), ev2 (f.length - 1) (fun i j => sm k fun a => sm m fun b => C a b * (shf a (co g) i * shf b (co g) j)) x y = sm k fun a => sm m fun b => C a b * (ev (f.length - 1) (shf a (co g)) x * ev (f.length - 1) (shf b (co g)) y) := fun k m C => by
        have g2 : ∀ (a m : Nat), ev2 (f.length - 1) (fun i j => sm m fun b => C a b * (shf a (co g) i * shf b (co g) j)) x y = sm m fun b => C a b * (ev (f.length - 1) (shf a (co g)) x * ev (f.length - 1) (shf b (co g)) y) := fun a m => by
          induction m with
          | zero => exact sm_zero fun i _ => sm_zero fun j _ => by show (0 : Rat) * _ = 0; grind
          | succ m ih =>
            show ev2 _ (fun i j => (sm m fun b => C a b * (shf a (co g) i * shf b (co g) j)) + C a m * (shf a (co g) i * shf m (co g) j)) x y = _ + _
            rw [ev2_add, ih, ev2_mul, ev2_prod]
        induction k with
        | zero => exact sm_zero fun i _ => sm_zero fun j _ => by show (0 : Rat) * _ = 0; grind
        | succ k ih =>
          show ev2 _ (fun i j => (sm k fun a => sm m fun b => C a b * (shf a (co g) i * shf b (co g) j)) + sm m fun b => C k b * (shf k (co g) i * shf b (co g) j)) x y = _ + _
          rw [ev2_add, ih, g2]
      rw [g1]
      unfold ev2
      rw [← sm_mul]
      refine sm_congr fun a ha => ?_
      rw [← sm_mul]
      refine sm_congr fun b hb => ?_
      rw [ev_shf (M := g.length) (fun i hi => co_out hi) (by omega), ev_shf (M := g.length) (fun i hi => co_out hi) (by omega)]
      show _ * (x ^ a * evL g x * (y ^ b * evL g y)) = _
      grind
    rw [ev2_add, p1, p2]
    have geo : ∀ k, (1 - x * y) * sm k (fun l => (x * y) ^ l * (evL h x * evL h y)) = (1 - (x * y) ^ k) * (evL h x * evL h y) := fun k => by
      induction k with
      | zero => rw [pw_zero]; show _ * (0 : Rat) = _; grind
      | succ k ih => show (1 - x * y) * (sm k _ + _) = _; rw [pw_succ]; grind
    have tot : (1 - x * y) * (sm z (fun l => (x * y) ^ l * (evL h x * evL h y)) + evL g x * evL g y * ev2 (q.length - 1) (Cm (q.length - 1) (co q)) x y) = (1 - x * y) * ev2 (f.length - 1) (Cm (f.length - 1) (co f)) x y := by
      rw [ef, Rat.mul_add, geo]
      have : (1 - x * y) * (evL g x * evL g y * ev2 (q.length - 1) (Cm (q.length - 1) (co q)) x y) = evL g x * evL g y * ((1 - x * y) * ev2 (q.length - 1) (Cm (q.length - 1) (co q)) x y) := by grind
      rw [this, eq, hqr x, hqr y, ggr x, ggr y, hqg x, hqg y, pw_mul]
      grind
    rcases Rat.mul_eq_zero.mp (show (1 - x * y) * ((sm z (fun l => (x * y) ^ l * (evL h x * evL h y)) + evL g x * evL g y * ev2 (q.length - 1) (Cm (q.length - 1) (co q)) x y) - ev2 (f.length - 1) (Cm (f.length - 1) (co f)) x y) = 0 by grind) with w | w
    · exact absurd w xy
    · grind
  rw [← quadF_congr (fun i hi j hj => em i hi j hj) (fun _ _ => rfl), quadF_add, quadF_prod]
  congr 1
  -- the second part
  have pd : ∀ l, l < q.length - 1 → dot (h.length - 1) (shf l (co g)) x = dot (f.length - 1) (shf l (co g)) x := fun l hl' => by
    unfold dot
    refine (sm_more (by omega) fun i h1 _ => ?_).symm
    unfold shf
    rw [if_neg (by omega), co_out (by omega)]; grind
  have g3 : ∀ (k m : Nat) (C : Nat → Nat → Rat), quadF (f.length - 1) (fun i j => sm k fun a => sm m fun b => C a b * (shf a (co g) i * shf b (co g) j)) x = sm k fun a => sm m fun b => C a b * (dot (f.length - 1) (shf a (co g)) x * dot (f.length - 1) (shf b (co g)) x) := fun k m C => by
    have one : ∀ (a b : Nat), quadF (f.length - 1) (fun i j => shf a (co g) i * shf b (co g) j) x = dot (f.length - 1) (shf a (co g)) x * dot (f.length - 1) (shf b (co g)) x := fun a b => by
      have := quadF_prod (f.length - 1) 1 (fun _ => shf a (co g)) (fun _ => shf b (co g)) x
      have e1 : sm 1 (fun _ => dot (f.length - 1) (shf a (co g)) x * dot (f.length - 1) (shf b (co g)) x) = dot (f.length - 1) (shf a (co g)) x * dot (f.length - 1) (shf b (co g)) x := by show (0 : Rat) + _ = _; grind
      rw [← e1, ← this]
      exact quadF_congr (fun i _ j _ => by show _ = (0 : Rat) + _; grind) (fun _ _ => rfl)
    have g2 : ∀ (a m : Nat), quadF (f.length - 1) (fun i j => sm m fun b => C a b * (shf a (co g) i * shf b (co g) j)) x = sm m fun b => C a b * (dot (f.length - 1) (shf a (co g)) x * dot (f.length - 1) (shf b (co g)) x) := fun a m => by
      rw [quadF_sum]; exact sm_congr fun b _ => by rw [one]
    induction k with
    | zero => exact sm_zero fun i _ => sm_zero fun j _ => by show (0 : Rat) * _ = 0; grind
    | succ k ih =>
      show quadF _ (fun i j => (sm k fun a => sm m fun b => C a b * (shf a (co g) i * shf b (co g) j)) + sm m fun b => C k b * (shf k (co g) i * shf b (co g) j)) x = _ + _
      rw [quadF_add, ih, g2]
  rw [g3]
  exact sm_congr fun a ha => sm_congr fun b hb => by
    dsimp only
    rw [pd a ha, pd b hb]
end EM
end

section
set_option Elab.async false
set_option linter.all false
namespace EM
open ShMat
def evZ (w : List Int) (a : Rat) : Rat := evL (castP w) a
theorem evZ_more {w : List Int} {N : Nat} (h : w.length ≤ N) (a : Rat) : ev N (cz w) a = evZ w a := by
  unfold evZ
  rw [← evL_more (f := castP w) (N := N) (by rw [cast_len]; exact h)]
  exact ev_congr (fun i _ => (co_cast w i).symm) a
theorem evZ_mul (f g : List Int) (a : Rat) : evZ (mulZ f g) a = evZ f a * evZ g a := evL_mul (zP_mul f g) a
theorem evL_add {f g h : Poly} (e : toP h = toP f + toP g) (a : Rat) : evL h a = evL f a + evL g a := by
  have h1 := evL_more (f := h) (N := h.length + f.length + g.length) (by omega) a
  have h2 := evL_more (f := f) (N := h.length + f.length + g.length) (by omega) a
  have h3 := evL_more (f := g) (N := h.length + f.length + g.length) (by omega) a
  rw [← h1, ← h2, ← h3, ← ev_add]
  exact ev_congr (fun i _ => congrArg (fun p => PS.c p i) e) a
theorem evL_smul {f h : Poly} {c : Rat} (e : toP h = PS.cst c * toP f) (a : Rat) : evL h a = c * evL f a := by
  have h1 := evL_more (f := h) (N := h.length + f.length) (by omega) a
  have h2 := evL_more (f := f) (N := h.length + f.length) (by omega) a
  rw [← h1, ← h2, ← ev_mulc]
  exact ev_congr (fun i _ => by have := congrArg (fun p => PS.c p i) e; simp only [PS.cst_mul] at this; exact this) a
theorem evZ_sum (f g : List Int) (a : Rat) : evZ (sumZ f g) a = evZ f a + evZ g a := evL_add (zP_sum f g) a
theorem evZ_grow (f : List Int) (c : Int) (a : Rat) : evZ (growZ f c) a = (c : Rat) * evZ f a := evL_smul (zP_grow f c) a
theorem evZ_lin (b c : Int) (a : Rat) : evZ [b, c] a = (b : Rat) + (c : Rat) * a := by
  show (0 : Rat) + (b : Rat) * a ^ 0 + (c : Rat) * a ^ 1 = _
  rw [pw_zero, pw_succ, pw_zero]; grind
theorem mulZ_len (f g : List Int) : (mulZ f g).length ≤ f.length + g.length - 1 := by
  refine (mulTo_tr f g f.length).len_le fun k hk => ?_
  have e : ((coZ (mulZ f g) k : Int) : Rat) = 0 := by
    rw [← zP_c, zP_mul]
    show (toP (castP f) * toP (castP g)).c k = 0
    by_cases hf : f.length = 0
    · have : f = [] := List.length_eq_zero_iff.mp hf
      rw [this]
      show (toP [] * _).c k = 0
      rw [toP_nil]
      have : (0 : PS) * toP (castP g) = 0 := by grind
      rw [this, PS.zero_c]
    · by_cases hg : g.length = 0
      · have : g = [] := List.length_eq_zero_iff.mp hg
        rw [this]
        show (_ * toP []).c k = 0
        rw [toP_nil]
        have : toP (castP f) * (0 : PS) = 0 := by grind
        rw [this, PS.zero_c]
      · exact mul_out (by rw [cast_len, cast_len]; omega)
  exact castQ_zero.mp e
def mobR (f : List Int) : Nat → List Int × List Int
  | 0 => ([], [1])
  | k + 1 => (sumZ (mulZ (mobR f k).1 [1, 1]) (growZ (mobR f k).2 (coZ f (f.length - 1 - k))), mulZ (mobR f k).2 [1, -1])
def mobZ (f : List Int) : List Int := (mobR f f.length).1
theorem mobR_fac (f : List Int) (u : Rat) : ∀ k, evZ (mobR f k).2 u = (1 - u) ^ k ∧ (mobR f k).2.length ≤ k + 1
  | 0 => ⟨by show (0 : Rat) + ((1 : Int) : Rat) * u ^ 0 = _; rw [pw_zero, pw_zero]; show (0 : Rat) + 1 * 1 = 1; grind, Nat.le_refl _⟩
  | k + 1 => by
    obtain ⟨h1, h2⟩ := mobR_fac f u k
    refine ⟨?_, ?_⟩
    · show evZ (mulZ (mobR f k).2 [1, -1]) u = _
      rw [evZ_mul, h1, evZ_lin, pw_succ]
      show _ * ((1 : Rat) + (-1) * u) = _
      grind
    · show (mulZ (mobR f k).2 [1, -1]).length ≤ _
      have := mulZ_len (mobR f k).2 [1, -1]
      simp at this
      omega
theorem mobR_len (f : List Int) : ∀ k, (mobR f k).1.length ≤ k
  | 0 => Nat.le_refl _
  | k + 1 => by
    have ih := mobR_len f k
    have := sumZ_le (mulZ (mobR f k).1 [1, 1]) (growZ (mobR f k).2 (coZ f (f.length - 1 - k)))
    rw [growZ_len] at this
    have h2 := (mobR_fac f 0 k).2
    have h3 : (mulZ (mobR f k).1 [1, 1]).length ≤ k + 1 := by
      have := mulZ_len (mobR f k).1 [1, 1]
      simp at this
      omega
    show (sumZ _ _).length ≤ _
    omega
theorem mobR_val (f : List Int) (u : Rat) {x : Rat} (hx : x * (1 - u) = 1 + u) : ∀ k, (1 - u) * evZ (mobR f k).1 u = (1 - u) ^ k * sm k fun j => cz f (f.length - 1 - j) * x ^ (k - 1 - j)
  | 0 => by show (1 - u) * 0 = _ * 0; grind
  | k + 1 => by
    have ih := mobR_val f u hx k
    show (1 - u) * evZ (sumZ (mulZ (mobR f k).1 [1, 1]) (growZ (mobR f k).2 (coZ f (f.length - 1 - k)))) u = _
    rw [evZ_sum, evZ_mul, evZ_grow, evZ_lin, (mobR_fac f u k).1]
    have e : sm (k + 1) (fun j => cz f (f.length - 1 - j) * x ^ (k + 1 - 1 - j)) = x * sm k (fun j => cz f (f.length - 1 - j) * x ^ (k - 1 - j)) + cz f (f.length - 1 - k) := by
      show sm k _ + cz f (f.length - 1 - k) * x ^ (k + 1 - 1 - k) = _
      rw [show k + 1 - 1 - k = 0 by omega, pw_zero, ← sm_mul]
      have : sm k (fun j => cz f (f.length - 1 - j) * x ^ (k + 1 - 1 - j)) = sm k (fun j => x * (cz f (f.length - 1 - j) * x ^ (k - 1 - j))) := sm_congr fun j hj => by
        rw [show k + 1 - 1 - j = (k - 1 - j) + 1 by omega, pw_succ]; grind
      rw [this]; grind
    rw [e, pw_succ]
    show (1 - u) * (evZ (mobR f k).1 u * ((1 : Rat) + 1 * u) + cz f (f.length - 1 - k) * (1 - u) ^ k) = _
    have : (1 - u) * (evZ (mobR f k).1 u * ((1 : Rat) + 1 * u)) = ((1 - u) * evZ (mobR f k).1 u) * (x * (1 - u)) := by rw [hx]; grind
    rw [Rat.mul_add, this, ih]; grind
theorem mobZ_tr {f : List Int} : TrZ (mobZ f) := by
  unfold mobZ
  cases f.length with
  | zero => exact .inl rfl
  | succ n => exact sumZ_tr _ _
theorem mobZ_len (f : List Int) : (mobZ f).length ≤ f.length := mobR_len f f.length
theorem horner (n : Nat) (f : Nat → Rat) (x : Rat) : sm (n + 1) (fun j => f (n - j) * x ^ (n - j)) = ev (n + 1) f x := by
  unfold ev
  rw [sm_rev n (fun i => f i * x ^ i)]
theorem mobZ_val {f : List Int} (nf : f ≠ []) {u : Rat} (hu : u ≠ 1) : ev f.length (cz (mobZ f)) u = (1 - u) ^ (f.length - 1) * ev f.length (cz f) ((1 + u) / (1 - u)) := by
  have hl : 0 < f.length := List.length_pos_iff.mpr nf
  have d : 1 - u ≠ 0 := fun z => hu (by grind)
  have e := mobR_val f u (x := (1 + u) / (1 - u)) (by grind) f.length
  rw [evZ_more (mobZ_len f)]
  have h1 : sm f.length (fun j => cz f (f.length - 1 - j) * ((1 + u) / (1 - u)) ^ (f.length - 1 - j)) = ev f.length (cz f) ((1 + u) / (1 - u)) := by
    have := horner (f.length - 1) (cz f) ((1 + u) / (1 - u))
    rwa [show f.length - 1 + 1 = f.length by omega] at this
  rw [h1] at e
  have e2 : (1 - u) ^ f.length = (1 - u) * (1 - u) ^ (f.length - 1) := by
    conv => lhs; rw [show f.length = f.length - 1 + 1 by omega, pw_succ]
    grind
  rw [e2] at e
  have e3 : (1 - u) * (evZ (mobZ f) u - (1 - u) ^ (f.length - 1) * ev f.length (cz f) ((1 + u) / (1 - u))) = 0 := by
    have : (1 - u) * evZ (mobZ f) u = (1 - u) * (1 - u) ^ (f.length - 1) * ev f.length (cz f) ((1 + u) / (1 - u)) := e
    grind
  rcases Rat.mul_eq_zero.mp e3 with w | w
  · exact absurd w d
  · grind
/-- at 1: the leading one -/
theorem mobZ_one {f : List Int} (hf : TrZ f) (nf : f ≠ []) : evZ (mobZ f) 1 ≠ 0 := by
  have hl : 0 < f.length := List.length_pos_iff.mpr nf
  have key : ∀ k, 0 < k → evZ (mobR f k).1 1 = cz f (f.length - 1) * 2 ^ (k - 1) := fun k => by
    induction k with
    | zero => intro h; omega
    | succ k ih =>
      intro _
      show evZ (sumZ (mulZ (mobR f k).1 [1, 1]) (growZ (mobR f k).2 (coZ f (f.length - 1 - k)))) 1 = _
      rw [evZ_sum, evZ_mul, evZ_grow, evZ_lin, (mobR_fac f 1 k).1]
      cases k with
      | zero =>
        show (0 : Rat) * _ + cz f (f.length - 1 - 0) * (1 - 1) ^ 0 = _ * 2 ^ (0 + 1 - 1)
        rw [pw_zero, Nat.sub_zero, show 0 + 1 - 1 = 0 by omega, pw_zero]; grind
      | succ k =>
        rw [ih (by omega), show (1 : Rat) - 1 = 0 by grind, pw_succ, show k + 1 + 1 - 1 = k + 1 by omega, show k + 1 - 1 = k by omega, pw_succ 2]
        show _ * ((1 : Rat) + 1 * 1) + _ * (0 ^ k * 0) = _
        grind
  have e := key f.length hl
  show evZ (mobR f f.length).1 1 ≠ 0
  rw [e]
  exact mul_ne (fun z => hf.ld nf (castQ_zero.mp z)) (pw_ne (by decide) _)
theorem mobZ_ne {f : List Int} (hf : TrZ f) (nf : f ≠ []) : mobZ f ≠ [] := fun z => mobZ_one hf nf (by rw [z]; rfl)
def axZ (w : List Int) (s : Nat) : List Int := trimZ ((List.range w.length).map fun k => if k % 2 ≠ s then 0 else if k % 4 = s then coZ w k else - coZ w k)
theorem axZ_tr (w : List Int) (s : Nat) : TrZ (axZ w s) := trimZ_tr _
theorem axZ_A (w : List Int) : cz (axZ w 0) = axA (cz w) := by
  funext i
  unfold cz axZ axA
  rw [coZ_trim, coZ_range]
  by_cases h : i < w.length
  · rw [if_pos h]
    by_cases h2 : i % 2 = 0
    · rw [if_neg (by omega), if_pos h2]
      unfold eps
      by_cases h4 : i % 4 = 0
      · rw [if_pos h4, if_pos (by omega)]; grind
      · rw [if_neg h4, if_neg (by omega), Rat.intCast_neg]; grind
    · rw [if_pos h2, if_neg h2]; rfl
  · rw [if_neg h]
    show ((0 : Int) : Rat) = if i % 2 = 0 then eps i * ((coZ w i : Int) : Rat) else 0
    rw [coZ_out (by omega)]
    split
    · show (0 : Rat) = _ * 0; grind
    · rfl
theorem axZ_B (w : List Int) : cz (axZ w 1) = axB (cz w) := by
  funext i
  unfold cz axZ axB
  rw [coZ_trim, coZ_range]
  by_cases h : i < w.length
  · rw [if_pos h]
    by_cases h2 : i % 2 = 1
    · rw [if_neg (by omega), if_pos h2]
      unfold eps
      by_cases h4 : i % 4 = 1
      · rw [if_pos h4, if_pos (by omega)]; grind
      · rw [if_neg h4, if_neg (by omega), Rat.intCast_neg]; grind
    · rw [if_pos h2, if_neg h2]; rfl
  · rw [if_neg h]
    show ((0 : Int) : Rat) = if i % 2 = 1 then eps i * ((coZ w i : Int) : Rat) else 0
    rw [coZ_out (by omega)]
    split
    · show (0 : Rat) = _ * 0; grind
    · rfl
def Par (p : Nat) (w : List Int) : Prop := ∀ i, i % 2 ≠ p → coZ w i = 0
theorem Par.ax (w : List Int) (s : Nat) (hs : s < 2) : Par s (axZ w s) := fun i hi => by
  unfold axZ
  rw [coZ_trim, coZ_range]
  by_cases h : i < w.length
  · rw [if_pos h, if_pos hi]
  · rw [if_neg h]
theorem Par.rest {p q : List Int} {a b : Nat} (hp : Par a p) (hq : Par b q) (ha : a < 2) (nq : q ≠ []) (tq : TrZ q) (N : Nat) : ∀ n, Par a (dvTo p q N n).r
  | 0 => hp
  | n + 1 => by
    have ih := Par.rest hp hq ha nq tq N n
    have ql : 0 < q.length := List.length_pos_iff.mpr nq
    have qb : (q.length - 1) % 2 = b := Classical.byContradiction fun z => (by
      rcases tq with h | h
      · exact nq h
      · exact h (hq _ z))
    intro i hi
    show coZ (sumZ (growZ (dvTo p q N n).r _) (shZ (N - 1 - n) (growZ q _))) i = 0
    rw [coZ_sum, coZ_grow, ih i hi, coZ_sh]
    by_cases c1 : i < N - 1 - n
    · rw [if_pos c1]; omega
    · rw [if_neg c1, coZ_grow]
      by_cases c2 : (N - 1 - n + q.length - 1) % 2 = a
      · -- the head may be something, but q has nothing there
        rw [hq (i - (N - 1 - n)) (by omega)]; omega
      · rw [ih _ c2]
        split <;> simp
theorem Par.nxt {p q : List Int} {a b : Nat} (hp : Par a p) (hq : Par b q) (ha : a < 2) (nq : q ≠ []) (tq : TrZ q) : Par a (nxt p q) := fun i hi => by
  unfold EM.nxt
  have h := Par.rest hp hq ha nq tq (p.length + 1 - q.length) (p.length + 1 - q.length) i hi
  have h : coZ (divZ p q).r i = 0 := h
  rw [coZ_grow]
  unfold contZ
  rw [coZ_range]
  split
  · rw [h]; simp
  · omega
theorem las_spec : ∀ (fuel : Nat) (p q : List Int), TrZ p → TrZ q → p ≠ [] → q.length ≤ fuel → TrZ (lasT fuel p q) ∧ lasT fuel p q ≠ [] ∧ Dvs (castP (lasT fuel p q)) (castP p) ∧ Dvs (castP (lasT fuel p q)) (castP q) ∧ (∀ e, Dvs e (castP p) → Dvs e (castP q) → Dvs e (castP (lasT fuel p q))) ∧ ∀ a b, a < 2 → b < 2 → Par a p → Par b q → ∃ c, c < 2 ∧ Par c (lasT fuel p q)
  | fuel, p, [], hp, _, np, _ => by
    have e : lasT fuel p [] = p := by
      cases fuel with
      | zero => rfl
      | succ n => show (if ([] : List Int) = [] then p else _) = p; rw [if_pos rfl]
    rw [e]
    exact ⟨hp, np, Dvs.refl _, Dvs.zero rfl, fun e h1 _ => h1, fun a b ha _ h1 _ => ⟨a, ha, h1⟩⟩
  | 0, p, _ :: _, _, _, _, h => by simp at h
  | fuel + 1, p, b0 :: q', hp, hq, np, hf => by
    generalize hqe : b0 :: q' = q at *
    have nq : q ≠ [] := by rw [← hqe]; simp
    obtain ⟨tn, ln⟩ := nxt_tr hp hq nq
    obtain ⟨a1, a2, a3, a4, a5, a6⟩ := las_spec fuel q (nxt p q) hq tn nq (by omega)
    have el : lasT (fuel + 1) p q = lasT fuel q (nxt p q) := by show (if q = [] then p else _) = _; rw [if_neg nq]
    rw [el]
    obtain ⟨s0, d2, d3, d4, d5⟩ := divZ_spec hp hq nq
    have sq : ((divZ p q).s : Rat) ≠ 0 := cast_ne (by omega)
    -- rest and the next one
    obtain ⟨c, c0, hc⟩ : ∃ c : Rat, c ≠ 0 ∧ zP (divZ p q).r = PS.cst c * zP (nxt p q) := by
      by_cases hr : (divZ p q).r = []
      · have e : nxt p q = [] := by unfold nxt; rw [hr]; rfl
        exact ⟨1, by decide, by rw [e, hr, zP_nil]; grind⟩
      · have d0 := rdv_ne d2 hr
        refine ⟨-((rdv (divZ p q).r 0 : Int) : Rat), fun z => cast_ne d0 (by grind), ?_⟩
        unfold nxt
        rw [zP_grow, zP_cont (divZ p q).r, PS.cst_neg]
        show _ = - PS.cst _ * (PS.cst ((-1 : Int) : Rat) * _)
        have : PS.cst ((-1 : Int) : Rat) = -1 := by
          have := PS.cst_neg (1 : Rat)
          have e1 : ((-1 : Int) : Rat) = -(1 : Rat) := rfl
          rw [e1, this]; rfl
        rw [this]; grind
    have hr1 : Dvs (castP (lasT fuel q (nxt p q))) (castP (divZ p q).r) := a4.smul hc
    refine ⟨a1, a2, ?_, a3, fun e h1 h2 => a5 e h2 ?_, fun a b ha hb h1 h2 => a6 b a hb ha h2 (Par.nxt h1 h2 ha nq hq)⟩
    · -- s p = Q q + r
      have hsp : Dvs (castP (lasT fuel q (nxt p q))) (smulP ((divZ p q).s : Rat) (castP p)) := hr1.lin a3 (castP (divZ p q).q) (by
        rw [toP_smul]
        show PS.cst _ * zP p = zP (divZ p q).r + zP (divZ p q).q * zP q
        rw [d5]; grind)
      refine hsp.smul (c := 1 / ((divZ p q).s : Rat)) ?_
      rw [toP_smul]
      have : PS.cst (1 / ((divZ p q).s : Rat)) * (PS.cst ((divZ p q).s : Rat) * toP (castP p)) = PS.cst (1 / ((divZ p q).s : Rat)) * PS.cst ((divZ p q).s : Rat) * toP (castP p) := by grind
      rw [this, cst_cst, show 1 / ((divZ p q).s : Rat) * ((divZ p q).s : Rat) = 1 by have := inv_ne sq; grind]
      show _ = (1 : PS) * _
      grind
    · -- e divides the rest, so the next one
      have hr : Dvs e (castP (divZ p q).r) := by
        have h1' : Dvs e (smulP ((divZ p q).s : Rat) (castP p)) := h1.smul (toP_smul _ _)
        refine h1'.lin h2 (pneg (castP (divZ p q).q)) ?_
        rw [toP_smul, toP_pneg]
        show zP (divZ p q).r = PS.cst _ * zP p + - zP (divZ p q).q * zP q
        rw [d5]; grind
      refine hr.smul (c := 1 / c) ?_
      show zP (nxt p q) = PS.cst (1 / c) * zP (divZ p q).r
      rw [hc]
      have : PS.cst (1 / c) * (PS.cst c * zP (nxt p q)) = PS.cst (1 / c) * PS.cst c * zP (nxt p q) := by grind
      rw [this, cst_cst, show 1 / c * c = 1 by have := inv_ne c0; grind]
      show _ = (1 : PS) * _
      grind
end EM
end

section
set_option Elab.async false
set_option linter.all false
namespace EM
open ShMat
def lin (a b : Rat) : PS := ⟨fun n => if n = 0 then a else if n = 1 then b else 0⟩
theorem lin_hi (a b : Rat) : ∀ i, 1 < i → (lin a b).c i = 0 := fun i hi => by
  show (if i = 0 then a else if i = 1 then b else 0) = 0
  rw [if_neg (by omega), if_neg (by omega)]
theorem ps_hi {A B : Nat} {p q : PS} (hp : ∀ i, A < i → p.c i = 0) (hq : ∀ i, B < i → q.c i = 0) : (∀ i, A + B < i → (p * q).c i = 0) ∧ (p * q).c (A + B) = p.c A * q.c B := by
  constructor
  · intro i hi
    rw [PS.mul_c]
    refine sm_zero fun a ha => ?_
    by_cases h : A < a
    · rw [hp a h]; grind
    · rw [hq (i - a) (by omega)]; grind
  · rw [PS.mul_c, sm_one (j := A) (by omega) (fun a ha ne => by
      by_cases h : A < a
      · rw [hp a h]; grind
      · rw [hq (A + B - a) (by omega)]; grind), show A + B - A = B by omega]
theorem ps_ev {A B : Nat} {p q : PS} (hp : ∀ i, A < i → p.c i = 0) (hq : ∀ i, B < i → q.c i = 0) (x : Rat) : ev (A + B + 1) (p * q).c x = ev (A + 1) p.c x * ev (B + 1) q.c x := by
  rw [← ev_prod (A := A + 1) (B := B + 1) (N := A + B + 2) (fun i hi => hp i (by omega)) (fun i hi => hq i (by omega)) (by omega)]
  exact (ev_more (N := A + B + 1) (M := A + B + 2) (by omega) (fun i hi => (ps_hi hp hq).1 i (by omega)) x).symm
theorem ps_pow0 (p : PS) : p ^ 0 = 1 := rfl
theorem ps_pows (p : PS) (k : Nat) : p ^ (k + 1) = p ^ k * p := rfl
theorem lin_pow (a b : Rat) : ∀ k : Nat, (∀ i, k < i → ((lin a b) ^ k).c i = 0) ∧ ((lin a b) ^ k).c k = b ^ k ∧ ∀ x, ev (k + 1) ((lin a b) ^ k).c x = (a + b * x) ^ k
  | 0 => by
    rw [ps_pow0]
    refine ⟨fun i hi => by rw [PS.one_c, if_neg (by omega)], by rw [PS.one_c, if_pos rfl, pw_zero], fun x => ?_⟩
    show (0 : Rat) + (1 : PS).c 0 * x ^ 0 = _
    rw [PS.one_c, if_pos rfl, pw_zero, pw_zero]; grind
  | k + 1 => by
    obtain ⟨h1, h2, h3⟩ := lin_pow a b k
    rw [ps_pows]
    obtain ⟨e1, e2⟩ := ps_hi h1 (lin_hi a b)
    refine ⟨e1, ?_, fun x => ?_⟩
    · rw [e2, h2, pw_succ]; rfl
    · rw [ps_ev h1 (lin_hi a b), h3, pw_succ]
      congr 1
      show (0 : Rat) + a * x ^ 0 + b * x ^ 1 = _
      rw [pw_zero, pw_succ, pw_zero]; grind
def homP (N : Nat) (F : Nat → Rat) (U V : PS) : PS := psm (N + 1) fun k => PS.cst (F k) * (U ^ k * V ^ (N - k))
theorem ev_psm (K N : Nat) (T : Nat → PS) (x : Rat) : ev N (psm K T).c x = sm K fun k => ev N (T k).c x := by
  unfold ev
  rw [sm_sw]
  refine sm_congr fun i _ => ?_
  rw [psm_c, Rat.mul_comm, ← sm_mul]
  exact sm_congr fun k _ => by grind
theorem hom_spec (N : Nat) (F : Nat → Rat) (a b c d : Rat) : (∀ i, N < i → (homP N F (lin a b) (lin c d)).c i = 0) ∧ (homP N F (lin a b) (lin c d)).c N = (sm (N + 1) fun k => F k * (b ^ k * d ^ (N - k))) ∧ ∀ x, ev (N + 1) (homP N F (lin a b) (lin c d)).c x = sm (N + 1) fun k => F k * ((a + b * x) ^ k * (c + d * x) ^ (N - k)) := by
  have t : ∀ k, k < N + 1 → (∀ i, N < i → ((lin a b) ^ k * (lin c d) ^ (N - k)).c i = 0) ∧ ((lin a b) ^ k * (lin c d) ^ (N - k)).c N = b ^ k * d ^ (N - k) ∧ ∀ x, ev (N + 1) ((lin a b) ^ k * (lin c d) ^ (N - k)).c x = (a + b * x) ^ k * (c + d * x) ^ (N - k) := fun k hk => by
    obtain ⟨u1, u2, u3⟩ := lin_pow a b k
    obtain ⟨v1, v2, v3⟩ := lin_pow c d (N - k)
    obtain ⟨e1, e2⟩ := ps_hi u1 v1
    rw [show k + (N - k) = N by omega] at e1 e2
    refine ⟨e1, by rw [e2, u2, v2], fun x => ?_⟩
    have := ps_ev u1 v1 x
    rw [show k + (N - k) + 1 = N + 1 by omega] at this
    rw [this, u3, v3]
  unfold homP
  refine ⟨fun i hi => ?_, ?_, fun x => ?_⟩
  · rw [psm_c]; exact sm_zero fun k hk => by rw [PS.cst_mul, (t k hk).1 i hi]; grind
  · rw [psm_c]; exact sm_congr fun k hk => by rw [PS.cst_mul, (t k hk).2.1]
  · rw [ev_psm]
    refine sm_congr fun k hk => ?_
    rw [← (t k hk).2.2 x, ← ev_mulc]
    exact ev_congr (fun i _ => PS.cst_mul _ _ _) x
theorem hom_val (N : Nat) (F : Nat → Rat) (a b c d : Rat) {x : Rat} (h : c + d * x ≠ 0) : ev (N + 1) (homP N F (lin a b) (lin c d)).c x = (c + d * x) ^ N * ev (N + 1) F ((a + b * x) / (c + d * x)) := by
  rw [(hom_spec N F a b c d).2.2]
  unfold ev
  rw [← sm_mul]
  refine sm_congr fun k hk => ?_
  have e : (c + d * x) ^ N = (c + d * x) ^ (N - k) * (c + d * x) ^ k := by rw [← pw_add, show N - k + k = N by omega]
  have e2 : (a + b * x) ^ k = (c + d * x) ^ k * ((a + b * x) / (c + d * x)) ^ k := by rw [← pw_mul]; congr 1; grind
  rw [e, e2]; grind
/-- from the circle to the axis -/
def mobF (N : Nat) (F : Nat → Rat) : PS := homP N F (lin 1 1) (lin 1 (-1))
theorem mobF_hi (N : Nat) (F : Nat → Rat) : ∀ i, N < i → (mobF N F).c i = 0 := (hom_spec N F _ _ _ _).1
theorem mobF_val (N : Nat) (F : Nat → Rat) {u : Rat} (h : u ≠ 1) : ev (N + 1) (mobF N F).c u = (1 - u) ^ N * ev (N + 1) F ((1 + u) / (1 - u)) := by
  have e := hom_val N F 1 1 1 (-1) (x := u) (fun z => h (by grind))
  unfold mobF
  rw [e, show (1 : Rat) + -1 * u = 1 - u by grind, show (1 : Rat) + 1 * u = 1 + u by grind]
theorem pt_ne1 (s : Nat) : ((s + 2 : Nat) : Rat) ≠ 1 := fun z => by
  have : ((s + 2 : Nat) : Rat) = ((1 : Nat) : Rat) := z
  have : s + 2 = 1 := by exact_mod_cast this
  omega
theorem pt_pos (s : Nat) : (0 : Rat) < ((s + 2 : Nat) : Rat) := by exact_mod_cast (show 0 < s + 2 by omega)
/-- what has the values of the moved one is it -/
theorem mobF_uniq {N : Nat} {F : Nat → Rat} {P : Nat → Rat} (hP : ∀ i, N < i → P i = 0) (h : ∀ s : Nat, ev (N + 1) P ((s + 2 : Nat) : Rat) = (1 - ((s + 2 : Nat) : Rat)) ^ N * ev (N + 1) F ((1 + ((s + 2 : Nat) : Rat)) / (1 - ((s + 2 : Nat) : Rat)))) : ∀ i, P i = (mobF N F).c i := fun i => by
  by_cases hi : N < i
  · rw [hP i hi, mobF_hi N F i hi]
  · exact ev_inj2 (N := N + 1) (fun s => by rw [h s, mobF_val N F (pt_ne1 s)]) i (by omega)
theorem mobZ_F {w : List Int} (nw : w ≠ []) (i : Nat) : cz (mobZ w) i = (mobF (w.length - 1) (cz w)).c i := by
  have hl : 0 < w.length := List.length_pos_iff.mpr nw
  refine mobF_uniq (P := cz (mobZ w)) (fun i hi => cz_out (by have := mobZ_len w; omega)) (fun s => ?_) i
  have := mobZ_val nw (pt_ne1 s)
  rwa [show w.length = w.length - 1 + 1 by omega, Nat.add_sub_cancel] at this
theorem dv_add (f g : PS) : dv (f + g) = dv f + dv g := by
  ext n; show _ * (f.c (n + 1) + g.c (n + 1)) = _ * _ + _ * _; grind
theorem dv_cst (q : Rat) (f : PS) : dv (PS.cst q * f) = PS.cst q * dv f := by
  ext n; rw [PS.cst_mul]; show _ * (PS.cst q * f).c (n + 1) = q * (_ * f.c (n + 1)); rw [PS.cst_mul]; grind
theorem dv_psm (n : Nat) (F : Nat → PS) : dv (psm n F) = psm n fun k => dv (F k) := by
  induction n with
  | zero => ext k; show _ * (0 : PS).c (k + 1) = (0 : PS).c k; rw [PS.zero_c, PS.zero_c]; grind
  | succ n ih => show dv (psm n F + F n) = psm n _ + dv (F n); rw [dv_add, ih]
theorem dv_lin (a b : Rat) : dv (lin a b) = PS.cst b := by
  ext n
  show ((n + 1 : Nat) : Rat) * (if n + 1 = 0 then a else if n + 1 = 1 then b else 0) = if n = 0 then b else 0
  rw [if_neg (by omega)]
  by_cases h : n = 0
  · rw [if_pos h, if_pos (by omega), h]; show ((1 : Nat) : Rat) * b = b; have : ((1 : Nat) : Rat) = 1 := rfl; rw [this]; grind
  · rw [if_neg h, if_neg (by omega)]; grind
theorem cst_succ (k : Nat) : PS.cst ((k + 1 : Nat) : Rat) = PS.cst (k : Rat) + 1 := by
  rw [Rat.natCast_add, PS.cst_add]; rfl
theorem dv_pow (a b : Rat) : ∀ k : Nat, dv ((lin a b) ^ (k + 1)) = PS.cst ((k + 1 : Nat) : Rat) * (PS.cst b * (lin a b) ^ k)
  | 0 => by
    rw [ps_pows, dv_mul, ps_pow0, dv_lin]
    have e : dv (1 : PS) = 0 := by
      ext n; show _ * (1 : PS).c (n + 1) = (0 : PS).c n; rw [PS.one_c, if_neg (by omega), PS.zero_c]; grind
    rw [e, cst_succ]
    have : PS.cst ((0 : Nat) : Rat) = 0 := rfl
    rw [this]; grind
  | k + 1 => by
    rw [ps_pows, dv_mul, dv_pow a b k, dv_lin, cst_succ (k + 1), ps_pows]; grind
theorem mob_dv (n : Nat) (g : Nat → Rat) : PS.cst 2 * mobF n (fun k => ((k + 1 : Nat) : Rat) * g (k + 1)) = lin 1 (-1) * dv (mobF (n + 1) g) + PS.cst ((n + 1 : Nat) : Rat) * mobF (n + 1) g := by
  have UV : lin 1 1 + lin 1 (-1) = PS.cst 2 := by
    ext i
    show (if i = 0 then (1 : Rat) else if i = 1 then 1 else 0) + (if i = 0 then (1 : Rat) else if i = 1 then -1 else 0) = if i = 0 then 2 else 0
    by_cases h : i = 0
    · rw [if_pos h, if_pos h, if_pos h]; grind
    · rw [if_neg h, if_neg h, if_neg h]; split <;> grind
  have c1 : PS.cst (1 : Rat) = 1 := rfl
  have cm : PS.cst (-1 : Rat) = -1 := by rw [PS.cst_neg]; rfl
  unfold mobF homP
  rw [dv_psm, ← psm_mul, ← psm_mul]
  have sum : psm (n + 1 + 1) (fun k => lin 1 (-1) * dv (PS.cst (g k) * ((lin 1 1) ^ k * (lin 1 (-1)) ^ (n + 1 - k)))) + psm (n + 1 + 1) (fun k => PS.cst ((n + 1 : Nat) : Rat) * (PS.cst (g k) * ((lin 1 1) ^ k * (lin 1 (-1)) ^ (n + 1 - k)))) = psm (n + 1 + 1) (fun k => lin 1 (-1) * dv (PS.cst (g k) * ((lin 1 1) ^ k * (lin 1 (-1)) ^ (n + 1 - k))) + PS.cst ((n + 1 : Nat) : Rat) * (PS.cst (g k) * ((lin 1 1) ^ k * (lin 1 (-1)) ^ (n + 1 - k)))) := by
    generalize n + 1 + 1 = K
    induction K with
    | zero => show (0 : PS) + 0 = 0; grind
    | succ K ih => show (psm K _ + _) + (psm K _ + _) = psm K _ + _; rw [← ih]; grind
  rw [← psm_mul, sum, psm_first (n + 1)]
  generalize hU : lin 1 1 = U at *
  generalize hV : lin 1 (-1) = V at *
  have dU : ∀ k : Nat, dv (U ^ (k + 1)) = PS.cst ((k + 1 : Nat) : Rat) * U ^ k := fun k => by rw [← hU, dv_pow, c1]; grind
  have dV : ∀ k : Nat, dv (V ^ (k + 1)) = - (PS.cst ((k + 1 : Nat) : Rat) * V ^ k) := fun k => by rw [← hV, dv_pow, cm]; grind
  have d1 : dv (1 : PS) = 0 := by
    ext n; show _ * (1 : PS).c (n + 1) = (0 : PS).c n; rw [PS.one_c, if_neg (by omega), PS.zero_c]; grind
  have z0 : V * dv (PS.cst (g 0) * (U ^ 0 * V ^ (n + 1 - 0))) + PS.cst ((n + 1 : Nat) : Rat) * (PS.cst (g 0) * (U ^ 0 * V ^ (n + 1 - 0))) = 0 := by
    rw [dv_cst, Nat.sub_zero, ps_pow0, show (1 : PS) * V ^ (n + 1) = V ^ (n + 1) by grind, dV, ps_pows]; grind
  rw [z0, show ∀ p : PS, (0 : PS) + p = p from fun p => by grind]
  refine psm_congr fun k hk => ?_
  rw [dv_cst, dv_mul, dU, show n + 1 - (k + 1) = n - k by omega, ← cst_cst]
  by_cases h : n - k = 0
  · have e : n = k := by omega
    rw [h, ps_pow0, d1, e, ps_pows, ← UV]; grind
  · obtain ⟨l, hl⟩ : ∃ l, n - k = l + 1 := ⟨n - k - 1, by omega⟩
    have en : PS.cst ((n + 1 : Nat) : Rat) = PS.cst ((k + 1 : Nat) : Rat) + PS.cst ((l + 1 : Nat) : Rat) := by
      rw [← PS.cst_add, ← Rat.natCast_add]; congr 2; omega
    rw [hl, dV, en, ps_pows V, ps_pows U, ← UV]; grind
end EM
end

section
set_option Elab.async false
set_option linter.all false
namespace EM
open ShMat
theorem Sqs.padc {m N : Nat} (h : m ≤ N) {Q Q' : (Nat → Rat) → Rat} {fs : List ((Nat → Rat) × Rat)} (hs : Sqs m Q fs) {c : Rat} (c0 : 0 < c) (e : ∀ x, Q' x = c * Q x) : ∃ gs, Sqs N Q' gs ∧ cntP gs = cntP fs ∧ cntN gs = cntN fs := by
  obtain ⟨zs, z1, z2, z3⟩ := Sqs.zero (N - m) (fun _ => 0) (fun _ => rfl)
  obtain ⟨gs, k1, k2, k3⟩ := Sqs.join (N := N) (d := m) (k := N - m) (q := fun i => if i = m then 1 else 0) (by omega) (by rw [if_pos rfl]; decide) (fun i hi => if_neg (by omega)) z1 hs (Q := Q') (a := 1) (b := c) (by decide) c0 (fun x => by rw [e x]; grind)
  exact ⟨gs, k1, by omega, by omega⟩
theorem Sqs.neg {N : Nat} {Q Q' : (Nat → Rat) → Rat} {fs : List ((Nat → Rat) × Rat)} (hs : Sqs N Q fs) (e : ∀ x, Q' x = - Q x) : ∃ gs, Sqs N Q' gs ∧ cntP gs = cntN fs ∧ cntN gs = cntP fs := by
  refine ⟨fs.map fun p => (p.1, - p.2), Sqs.mk (by rw [List.length_map]; exact hs.len) (fun x => ?_) (fun x hf => hs.inj x fun p hp => hf (p.1, - p.2) (List.mem_map.mpr ⟨p, hp, rfl⟩)), ?_, ?_⟩
  · rw [e x, hs.eq x]
    have : ∀ ts : List ((Nat → Rat) × Rat), (ts.map fun p => (p.1, - p.2)).foldr (fun p s => p.2 * (dot N p.1 x * dot N p.1 x) + s) 0 = - ts.foldr (fun p s => p.2 * (dot N p.1 x * dot N p.1 x) + s) 0 := fun ts => by
      induction ts with
      | nil => show (0 : Rat) = - 0; grind
      | cons t ts ih => rw [List.map_cons, List.foldr_cons, ih, List.foldr_cons]; dsimp only; grind
    rw [this]
  · unfold cntP cntN
    rw [List.filter_map, List.length_map]
    congr 1
    refine List.filter_congr fun p _ => ?_
    show decide (0 < - p.2) = decide (p.2 < 0)
    exact decide_eq_decide.mpr ⟨fun h => by grind, fun h => by grind⟩
  · unfold cntP cntN
    rw [List.filter_map, List.length_map]
    congr 1
    refine List.filter_congr fun p _ => ?_
    show decide (- p.2 < 0) = decide (0 < p.2)
    exact decide_eq_decide.mpr ⟨fun h => by grind, fun h => by grind⟩
theorem cnt_le : ∀ fs : List ((Nat → Rat) × Rat), cntP fs + cntN fs ≤ fs.length
  | [] => Nat.le_refl _
  | p :: fs => by
    have ih := cnt_le fs
    unfold cntP cntN at *
    rw [List.filter_cons, List.filter_cons]
    by_cases h1 : 0 < p.2
    · have h2 : ¬ p.2 < 0 := by grind
      rw [if_pos (decide_eq_true h1), if_neg (by rw [decide_eq_false h2]; decide)]
      simp only [List.length_cons]; omega
    · rw [if_neg (by rw [decide_eq_false h1]; decide)]
      split <;> simp only [List.length_cons] <;> omega
def FS (p : PS) : Prop := ∃ A, ∀ i, A < i → p.c i = 0
theorem FS.toP (f : Poly) : FS (toP f) := ⟨f.length, fun i hi => co_out (by omega)⟩
theorem FS.add {p q : PS} (hp : FS p) (hq : FS q) : FS (p + q) := by
  obtain ⟨A, a⟩ := hp
  obtain ⟨B, b⟩ := hq
  exact ⟨A + B, fun i hi => by rw [PS.add_c, a i (by omega), b i (by omega)]; grind⟩
theorem FS.mul {p q : PS} (hp : FS p) (hq : FS q) : FS (p * q) := by
  obtain ⟨A, a⟩ := hp
  obtain ⟨B, b⟩ := hq
  exact ⟨A + B, (ps_hi a b).1⟩
theorem FS.cst (c : Rat) : FS (PS.cst c) := ⟨0, fun i hi => by show (if i = 0 then c else 0) = 0; rw [if_neg (by omega)]⟩
theorem FS.XP (k : Nat) : FS (EM.XP k) := ⟨k, fun i hi => by show (if i = k then (1 : Rat) else 0) = 0; rw [if_neg (by omega)]⟩
theorem FS.poly {p : PS} (h : FS p) : ∃ K : Poly, Tr K ∧ EM.toP K = p := by
  obtain ⟨A, a⟩ := h
  refine ⟨trim ((List.range (A + 1)).map p.c), trim_tr _, ?_⟩
  rw [toP_trim]
  ext i
  rw [toP_c, co_range]
  by_cases hi : i < A + 1
  · rw [if_pos hi]
  · rw [if_neg hi, a i (by omega)]
def tau (p : PS) : PS := ⟨fun i => eps i * p.c i⟩
def prj (r : Nat) (p : PS) : PS := ⟨fun i => if i % 2 = r then p.c i else 0⟩
theorem tau_c (p : PS) (i : Nat) : (tau p).c i = eps i * p.c i := rfl
theorem FS.tau {p : PS} (h : FS p) : FS (tau p) := by obtain ⟨A, a⟩ := h; exact ⟨A, fun i hi => by rw [tau_c, a i hi]; grind⟩
theorem FS.prj {p : PS} (h : FS p) (r : Nat) : FS (prj r p) := by
  obtain ⟨A, a⟩ := h
  exact ⟨A, fun i hi => by show (if i % 2 = r then p.c i else 0) = 0; rw [a i hi]; split <;> rfl⟩
theorem prj_mul {K G : PS} {t r : Nat} (ht : t < 2) (hr : r < 2) (hG : ∀ i, i % 2 ≠ r → G.c i = 0) (hz : ∀ i, i % 2 ≠ t → (K * G).c i = 0) : prj ((t + r) % 2) K * G = K * G := by
  ext i
  by_cases h : i % 2 = t
  · rw [PS.mul_c, PS.mul_c]
    refine sm_congr fun a ha => ?_
    show (if a % 2 = (t + r) % 2 then K.c a else 0) * _ = _
    by_cases c : a % 2 = (t + r) % 2
    · rw [if_pos c]
    · rw [if_neg c, hG (i - a) (by omega)]; grind
  · rw [hz i h, PS.mul_c]
    refine sm_zero fun a ha => ?_
    show (if a % 2 = (t + r) % 2 then K.c a else 0) * _ = _
    by_cases c : a % 2 = (t + r) % 2
    · rw [hG (i - a) (by omega)]; grind
    · rw [if_neg c]; grind
theorem eps_add {a b : Nat} : eps (a + b) = (if a % 2 = 1 ∧ b % 2 = 1 then -1 else 1) * (eps a * eps b) := by
  have h1 : ∀ k : Nat, (k / 2 % 2 = 0 ∨ k / 2 % 2 = 1) := fun k => by omega
  unfold eps
  by_cases c : a % 2 = 1 ∧ b % 2 = 1
  · rw [if_pos c, show (a + b) / 2 = a / 2 + b / 2 + 1 by omega]
    rcases h1 a with x | x <;> rcases h1 b with y | y
    · rw [if_pos x, if_pos y, if_neg (by omega)]; grind
    · rw [if_pos x, if_neg (show ¬ b / 2 % 2 = 0 by omega), if_pos (by omega)]; grind
    · rw [if_neg (show ¬ a / 2 % 2 = 0 by omega), if_pos y, if_pos (by omega)]; grind
    · rw [if_neg (show ¬ a / 2 % 2 = 0 by omega), if_neg (show ¬ b / 2 % 2 = 0 by omega), if_neg (by omega)]; grind
  · rw [if_neg c, show (a + b) / 2 = a / 2 + b / 2 by omega]
    rcases h1 a with x | x <;> rcases h1 b with y | y
    · rw [if_pos x, if_pos y, if_pos (by omega)]; grind
    · rw [if_pos x, if_neg (show ¬ b / 2 % 2 = 0 by omega), if_neg (by omega)]; grind
    · rw [if_neg (show ¬ a / 2 % 2 = 0 by omega), if_pos y, if_neg (by omega)]; grind
    · rw [if_neg (show ¬ a / 2 % 2 = 0 by omega), if_neg (show ¬ b / 2 % 2 = 0 by omega), if_pos (by omega)]; grind
theorem tau_mul {P Q : PS} {p q : Nat} (hP : ∀ i, i % 2 ≠ p → P.c i = 0) (hQ : ∀ i, i % 2 ≠ q → Q.c i = 0) : tau (P * Q) = PS.cst (if p = 1 ∧ q = 1 then -1 else 1) * (tau P * tau Q) := by
  ext i
  rw [PS.cst_mul, PS.mul_c, tau_c, PS.mul_c, ← sm_mul, ← sm_mul]
  refine sm_congr fun a ha => ?_
  rw [tau_c, tau_c]
  by_cases h1 : a % 2 = p
  · by_cases h2 : (i - a) % 2 = q
    · have := eps_add (a := a) (b := i - a)
      rw [show a + (i - a) = i by omega, h1, h2] at this
      rw [this]; grind
    · rw [hQ _ h2]; grind
  · rw [hP _ h1]; grind
/-- a divisor of both, with a parity, divides the one with its signs turned -/
theorem dvs_tau {F : Nat → Rat} {G KA KB : PS} {r : Nat} (hr : r < 2) (hG : ∀ i, i % 2 ≠ r → G.c i = 0) (fA : FS KA) (fB : FS KB) (hA : ∀ i, axA F i = (KA * G).c i) (hB : ∀ i, axB F i = (KB * G).c i) : ∃ K, FS K ∧ ∀ i, (if i % 2 = 0 then F i else - F i) = (K * tau G).c i := by
  have a0 : prj ((0 + r) % 2) KA * G = KA * G := prj_mul (by decide) hr hG (fun i hi => by rw [← hA i]; unfold axA; rw [if_neg hi])
  have b0 : prj ((1 + r) % 2) KB * G = KB * G := prj_mul (by decide) hr hG (fun i hi => by rw [← hB i]; unfold axB; rw [if_neg hi])
  have pz : ∀ (s : Nat) (K : PS) (i : Nat), i % 2 ≠ s → (prj s K).c i = 0 := fun s K i hi => by show (if i % 2 = s then K.c i else 0) = 0; rw [if_neg hi]
  have a1 := tau_mul (pz ((0 + r) % 2) KA) hG
  have b1 := tau_mul (pz ((1 + r) % 2) KB) hG
  rw [a0] at a1
  rw [b0] at b1
  generalize hsa : PS.cst (if (0 + r) % 2 = 1 ∧ r = 1 then (-1 : Rat) else 1) = sa at *
  generalize hsb : PS.cst (if (1 + r) % 2 = 1 ∧ r = 1 then (-1 : Rat) else 1) = sb at *
  refine ⟨sa * tau (prj ((0 + r) % 2) KA) + PS.cst (-1) * (sb * tau (prj ((1 + r) % 2) KB)), ?_, fun i => ?_⟩
  · exact ((hsa ▸ FS.cst _).mul (fA.prj _).tau).add ((FS.cst _).mul ((hsb ▸ FS.cst _).mul (fB.prj _).tau))
  · have e : (sa * tau (prj ((0 + r) % 2) KA) + PS.cst (-1) * (sb * tau (prj ((1 + r) % 2) KB))) * tau G = tau (KA * G) + PS.cst (-1) * tau (KB * G) := by rw [a1, b1]; grind
    rw [e, PS.add_c, PS.cst_mul, tau_c, tau_c, ← hA, ← hB]
    unfold axA axB
    have := eps_sq i
    by_cases h : i % 2 = 0
    · rw [if_pos h, if_pos h, if_neg (by omega)]; grind
    · rw [if_neg h, if_neg h, if_pos (by omega)]; grind
end EM
end

section
set_option Elab.async false
set_option linter.all false
namespace EM
open ShMat
theorem fs_eq {n : Nat} {p q : PS} (hp : ∀ i, n < i → p.c i = 0) (hq : ∀ i, n < i → q.c i = 0) (h : ∀ s : Nat, ev (n + 1) p.c ((s + 2 : Nat) : Rat) = ev (n + 1) q.c ((s + 2 : Nat) : Rat)) : p = q := by
  ext i
  by_cases hi : n < i
  · rw [hp i hi, hq i hi]
  · exact ev_inj2 h i (by omega)
theorem pw_div {a b : Rat} (hb : b ≠ 0) (n : Nat) : b ^ n * (a / b) ^ n = a ^ n := by rw [← pw_mul]; congr 1; grind
theorem mob_one {f : Poly} (tf : Tr f) (nf : f ≠ []) : ev (f.length - 1 + 1) (mobF (f.length - 1) (co f)).c 1 ≠ 0 := by
  have hl : 0 < f.length := List.length_pos_iff.mpr nf
  unfold mobF
  rw [(hom_spec (f.length - 1) (co f) 1 1 1 (-1)).2.2 1, sm_one (j := f.length - 1) (by omega) (fun k hk ne => by
    obtain ⟨l, e⟩ : ∃ l, f.length - 1 - k = l + 1 := ⟨f.length - 1 - k - 1, by omega⟩
    rw [e, pw_succ, show (1 : Rat) + -1 * 1 = 0 by grind]; grind), Nat.sub_self, pw_zero]
  exact mul_ne (tf.last nf) (mul_ne (pw_ne (by decide +kernel) _) (by decide))
/-- what divides the moved one is the moved common divisor, if it's long enough -/
theorem ident {f h g : Poly} {z : Nat} (tf : Tr f) (nf : f ≠ []) (hf : ∀ i, co f i = shf z (co h) i) (fl : f.length = z + h.length) (nh : h ≠ []) (hh : Tr h) (h0 : co h 0 ≠ 0) (ng : g ≠ []) (tg : Tr g) (hu : ∀ e, Dvs e h → Dvs e h.reverse → Dvs e g)
    {m : Nat} (hm : m ≤ f.length - 1) (hF : ∀ i, m < i → (mobF (f.length - 1) (co f)).c i = 0) {Γ : Poly} (tΓ : Tr Γ) (nΓ : Γ ≠ []) {σ : Rat} (σσ : σ * σ = 1) (hσ : ∀ x, evL Γ (-x) = σ * evL Γ x) {K : PS} (fK : FS K)
    (hK : ∀ i, (if i % 2 = 0 then (mobF (f.length - 1) (co f)).c i else - (mobF (f.length - 1) (co f)).c i) = (K * toP Γ).c i) (hg : g.length + m ≤ f.length + (Γ.length - 1)) :
    ∃ κ, κ ≠ 0 ∧ g.length + m = f.length + (Γ.length - 1) ∧ ∀ i, (mobF (g.length - 1) (co g)).c i = κ * co Γ i := by
  have lf : 0 < f.length := List.length_pos_iff.mpr nf
  have lΓ : 0 < Γ.length := List.length_pos_iff.mpr nΓ
  have lh : 0 < h.length := List.length_pos_iff.mpr nh
  have lg : 0 < g.length := List.length_pos_iff.mpr ng
  obtain ⟨Kp, tK, eK⟩ := fK.poly
  rw [← eK] at hK
  have F1 := mob_one tf nf
  have Fhi := mobF_hi (f.length - 1) (co f)
  have Fval := fun u (hu : u ≠ 1) => mobF_val (f.length - 1) (co f) (u := u) hu
  generalize hFF : mobF (f.length - 1) (co f) = F at *
  generalize hn : f.length - 1 = n at *
  have fn : f.length = n + 1 := by omega
  -- values of the turned one
  have phi : ∀ i, m < i → (toP Kp * toP Γ).c i = 0 := fun i hi => by rw [← hK i, hF i hi]; split <;> grind
  have v1 : ∀ x, ev (n + 1) F.c (-x) = evL Kp x * evL Γ x := fun x => by
    rw [ev_neg, ev_congr (fun i _ => hK i)]
    have e := ev_prod (A := Kp.length) (B := Γ.length) (N := Kp.length + Γ.length + (n + 1)) (p := toP Kp) (q := toP Γ) (fun i hi => co_out hi) (fun i hi => co_out hi) (by omega) x
    rw [ev_more (N := n + 1) (by omega) (fun i hi => phi i (by omega))] at e
    exact e
  have v1m := v1 (-1)
  rw [show - (-1 : Rat) = 1 by grind] at v1m
  rw [v1m] at F1
  have K1 : evL Kp (-1) ≠ 0 := fun z => F1 (by rw [z]; grind)
  have nK : Kp ≠ [] := fun z => K1 (by rw [z]; rfl)
  have Γ1 : evL Γ 1 ≠ 0 := fun z => F1 (by rw [hσ 1, z]; grind)
  have lK : 0 < Kp.length := List.length_pos_iff.mpr nK
  have dK : Kp.length - 1 + (Γ.length - 1) ≤ m := Classical.byContradiction fun w => by
    have := phi (Kp.length - 1 + (Γ.length - 1)) (by omega)
    rw [mul_top nK nΓ] at this
    exact mul_ne (tK.last nK) (tΓ.last nΓ) this
  obtain ⟨N, hN⟩ : ∃ N, N = n - m + (Γ.length - 1) := ⟨_, rfl⟩
  -- the image
  obtain ⟨e1, e2, _⟩ := hom_spec N (co Γ) (-1) 1 1 1
  have e3 := fun x (hx : (1 : Rat) + 1 * x ≠ 0) => hom_val N (co Γ) (-1) 1 1 1 (x := x) hx
  obtain ⟨k1, _, _⟩ := hom_spec (n - N) (co Kp) (-1) 1 1 1
  have k3 := fun x (hx : (1 : Rat) + 1 * x ≠ 0) => hom_val (n - N) (co Kp) (-1) 1 1 1 (x := x) hx
  generalize homP N (co Γ) (lin (-1) 1) (lin 1 1) = gh at *
  generalize homP (n - N) (co Kp) (lin (-1) 1) (lin 1 1) = kh at *
  have top : gh.c N = evL Γ 1 := by
    rw [e2, ← evL_more (N := N + 1) (by omega)]
    exact sm_congr fun k _ => by rw [one_pw, one_pw]; grind
  obtain ⟨e, he⟩ : ∃ e : Poly, e = (List.range (N + 1)).map gh.c := ⟨_, rfl⟩
  have el : e.length = N + 1 := by rw [he]; simp
  have ec : ∀ i, co e i = gh.c i := fun i => by
    rw [he, co_range]
    by_cases c : i < N + 1
    · rw [if_pos c]
    · rw [if_neg c, e1 i (by omega)]
  have eP : toP e = gh := by ext i; exact ec i
  have ne : e ≠ [] := fun z => by rw [z] at el; simp at el
  have te : Tr e := by
    right
    have : e.getLastD 0 = co e (e.length - 1) := leading_co
    rw [this, el, Nat.add_sub_cancel, ec, top]; exact Γ1
  have ev_e : ∀ x : Rat, (1 : Rat) + x ≠ 0 → evL e x = (1 + x) ^ N * evL Γ ((x - 1) / (1 + x)) := fun x hx => by
    have a := e3 x (fun z => hx (by grind))
    rw [show (1 : Rat) + 1 * x = 1 + x by grind, show (-1 : Rat) + 1 * x = x - 1 by grind, evL_more (f := Γ) (N := N + 1) (by omega)] at a
    rw [← a]
    unfold evL
    rw [el]
    exact ev_congr (fun i _ => ec i) x
  -- it divides h turned about
  have xs : ∀ s : Nat, (1 : Rat) + ((s + 2 : Nat) : Rat) ≠ 0 := fun s w => by have := pt_pos s; grind
  have main : PS.cst (2 ^ n) * toP h.reverse = kh * gh := by
    have hrl : h.reverse.length ≤ n + 1 := by rw [List.length_reverse]; omega
    refine fs_eq (n := n) (fun i hi => by rw [PS.cst_mul]; show _ * co h.reverse i = 0; rw [co_out (by rw [List.length_reverse]; omega)]; grind) (fun i hi => (ps_hi k1 e1).1 i (by omega)) (fun s => ?_)
    have x1 := xs s
    have x0 := pt_ne s
    have xp := pt_pos s
    generalize ((s + 2 : Nat) : Rat) = x at *
    have p1 := ps_ev k1 e1 x
    rw [show n - N + N + 1 = n + 1 by omega] at p1
    rw [p1]
    have a := k3 x (fun z => x1 (by grind))
    rw [show (1 : Rat) + 1 * x = 1 + x by grind, show (-1 : Rat) + 1 * x = x - 1 by grind, evL_more (f := Kp) (N := n - N + 1) (by omega)] at a
    have b := ev_e x x1
    have b' : ev (N + 1) gh.c x = evL e x := by
      unfold evL
      rw [el]
      exact ev_congr (fun i _ => (ec i).symm) x
    rw [a, b', b]
    have c := v1 ((x - 1) / (1 + x))
    have tne : -((x - 1) / (1 + x)) ≠ 1 := fun w => by
      have : (x - 1) / (1 + x) * (1 + x) = x - 1 := by grind
      rw [show (x - 1) / (1 + x) = -1 by grind] at this
      exact x0 (by grind)
    rw [Fval _ tne] at c
    have d1 : 1 - -((x - 1) / (1 + x)) = (2 * x) / (1 + x) := by grind
    have d2 : (1 + -((x - 1) / (1 + x))) / (1 - -((x - 1) / (1 + x))) = 1 / x := by
      rw [d1, show 1 + -((x - 1) / (1 + x)) = 2 / (1 + x) by grind]
      have : (2 * x) / (1 + x) ≠ 0 := fun w => by
        have : (2 * x) / (1 + x) * (1 + x) = 2 * x := by grind
        rw [w] at this
        grind
      grind
    rw [d2, d1] at c
    have hev : ev (n + 1) (co f) (1 / x) = (1 / x) ^ z * evL h (1 / x) := by
      rw [ev_congr (fun i _ => hf i)]
      exact ev_shf (fun i hi => co_out hi) (by omega) _
    rw [hev] at c
    have hl : ev (n + 1) (PS.cst (2 ^ n) * toP h.reverse).c x = 2 ^ n * evL h.reverse x := by
      rw [ev_congr (fun i _ => PS.cst_mul _ _ i), ev_mulc]
      congr 1
      exact evL_more hrl x
    rw [hl, evL_rev nh x0]
    have q1 : (1 + x) ^ (n - N) * evL Kp ((x - 1) / (1 + x)) * ((1 + x) ^ N * evL Γ ((x - 1) / (1 + x))) = (1 + x) ^ n * (evL Kp ((x - 1) / (1 + x)) * evL Γ ((x - 1) / (1 + x))) := by
      have : (1 + x) ^ n = (1 + x) ^ (n - N) * (1 + x) ^ N := by rw [← pw_add, show n - N + N = n by omega]
      rw [this]; grind
    rw [q1, ← c]
    have q2 := pw_div (a := 2 * x) x1 n
    have q3 : x ^ n = x ^ (h.length - 1) * x ^ z := by rw [← pw_add, show h.length - 1 + z = n by omega]
    have q4 := pw_div (a := (1 : Rat)) x0 z
    rw [one_pw] at q4
    rw [pw_mul 2 x n] at q2
    have q5 : (1 + x) ^ n * ((2 * x / (1 + x)) ^ n * ((1 / x) ^ z * evL h (1 / x))) = ((1 + x) ^ n * (2 * x / (1 + x)) ^ n) * ((1 / x) ^ z * evL h (1 / x)) := by grind
    rw [q5, q2, q3]
    have q6 : 2 ^ n * (x ^ (h.length - 1) * x ^ z) * ((1 / x) ^ z * evL h (1 / x)) = 2 ^ n * (x ^ (h.length - 1) * (x ^ z * (1 / x) ^ z) * evL h (1 / x)) := by grind
    rw [q6, q4]; grind
  have two : (2 : Rat) ^ n ≠ 0 := pw_ne (by decide) n
  obtain ⟨u, tu, hu'⟩ := ((FS.cst (1 / 2 ^ n)).mul (show FS kh from ⟨n - N, k1⟩)).poly
  have dv1 : toP h.reverse = toP u * toP e := by
    rw [hu', eP]
    have : PS.cst (1 / 2 ^ n) * kh * gh = PS.cst (1 / 2 ^ n) * (kh * gh) := by grind
    rw [this, ← main]
    have : PS.cst (1 / 2 ^ n) * (PS.cst (2 ^ n) * toP h.reverse) = PS.cst (1 / 2 ^ n) * PS.cst (2 ^ n) * toP h.reverse := by grind
    rw [this, cst_cst, show (1 / 2 ^ n * 2 ^ n : Rat) = 1 by have := inv_ne two; grind]
    show _ = (1 : PS) * _
    grind
  have er : toP e.reverse = PS.cst σ * toP e := by
    refine fs_eq (n := N) (fun i hi => by show co e.reverse i = 0; exact co_out (by rw [List.length_reverse]; omega)) (fun i hi => by rw [PS.cst_mul]; show _ * co e i = 0; rw [co_out (by omega)]; grind) (fun s => ?_)
    have x1 := xs s
    have x0 := pt_ne s
    have xp := pt_pos s
    generalize ((s + 2 : Nat) : Rat) = x at *
    have a1 : ev (N + 1) (toP e.reverse).c x = evL e.reverse x := evL_more (by rw [List.length_reverse]; omega) x
    have a2 : ev (N + 1) (PS.cst σ * toP e).c x = σ * evL e x := by
      rw [ev_congr (fun i _ => PS.cst_mul _ _ i), ev_mulc]
      congr 1
      exact evL_more (by omega) x
    have i1 := inv_ne x0
    have y1 : (1 : Rat) + 1 / x ≠ 0 := fun w => x1 (by grind)
    rw [a1, a2, evL_rev ne x0, el, Nat.add_sub_cancel, ev_e _ y1, ev_e x x1]
    have b1 : (1 / x - 1) / (1 + 1 / x) = -((x - 1) / (1 + x)) := by grind
    rw [b1, hσ]
    have b2 : x ^ N * (1 + 1 / x) ^ N = (1 + x) ^ N := by rw [← pw_mul]; congr 1; grind
    have b3 : x ^ N * ((1 + 1 / x) ^ N * (σ * evL Γ ((x - 1) / (1 + x)))) = (x ^ N * (1 + 1 / x) ^ N) * (σ * evL Γ ((x - 1) / (1 + x))) := by grind
    rw [b3, b2]; grind
  have nu : u ≠ [] := fun w => by
    rw [w, toP_nil] at dv1
    have : h.reverse = [] := (rev_tr nh h0).toP_inj (.inl rfl) (by rw [dv1, toP_nil]; grind)
    exact nh (List.reverse_eq_nil_iff.mp this)
  have dh : Dvs e h := by
    obtain ⟨_, _, r⟩ := rev_mul (rev_tr nh h0) tu te nu ne dv1
    rw [List.reverse_reverse, er] at r
    exact ⟨smulP σ u.reverse, by rw [r, toP_smul]; grind⟩
  obtain ⟨v, hv⟩ := hu e dh ⟨u, dv1⟩
  have hv' : toP g = toP (trim v) * toP e := by rw [toP_trim]; exact hv
  have nv : trim v ≠ [] := fun w => ng (by
    rw [w, toP_nil] at hv'
    exact tg.toP_inj (.inl rfl) (by rw [hv', toP_nil]; grind))
  obtain ⟨gl, _, _⟩ := rev_mul tg (trim_tr v) te nv ne hv'
  have lv : 0 < (trim v).length := List.length_pos_iff.mpr nv
  have v1' : (trim v).length = 1 := by omega
  obtain ⟨κ0, hκ⟩ : ∃ a, trim v = [a] := by
    match trim v, v1' with
    | [a], _ => exact ⟨a, rfl⟩
  have κn : κ0 ≠ 0 := by
    have := (trim_tr v).last nv
    rw [hκ] at this
    exact this
  have tc : toP [κ0] = PS.cst κ0 := by ext k; show co [κ0] k = if k = 0 then _ else _; cases k with | zero => rfl | succ k => rw [co_out (by simp), if_neg (by omega)]
  have gc : ∀ i, co g i = κ0 * gh.c i := fun i => by
    have : (toP g).c i = (PS.cst κ0 * gh).c i := by rw [hv', hκ, tc, eP]
    rw [PS.cst_mul] at this
    exact this
  have gN : g.length - 1 = N := by omega
  refine ⟨κ0 * 2 ^ N, mul_ne κn (pw_ne (by decide) _), by omega, fun i => ?_⟩
  rw [gN]
  refine (mobF_uniq (P := fun i => κ0 * 2 ^ N * co Γ i) (fun i hi => by rw [co_out (by omega)]; grind) (fun s => ?_) i).symm
  have u1 := pt_ne1 s
  have up := pt_pos s
  generalize ((s + 2 : Nat) : Rat) = t at *
  have w1 : 1 - t ≠ 0 := fun w => u1 (by grind)
  rw [ev_mulc, evL_more (f := Γ) (N := N + 1) (by omega), ev_congr (fun i _ => gc i), ev_mulc]
  have X1 : (1 : Rat) + (1 + t) / (1 - t) = 2 / (1 - t) := by grind
  have X0 : (1 : Rat) + (1 + t) / (1 - t) ≠ 0 := by
    rw [X1]; intro w
    have : 2 / (1 - t) * (1 - t) = 2 := by grind
    rw [w] at this; grind
  have b' : ev (N + 1) gh.c ((1 + t) / (1 - t)) = evL e ((1 + t) / (1 - t)) := by
    unfold evL
    rw [el]
    exact ev_congr (fun i _ => (ec i).symm) _
  rw [b', ev_e _ X0, X1]
  have b1 : ((1 + t) / (1 - t) - 1) / (2 / (1 - t)) = t := by
    rw [X1] at X0
    have : (1 + t) / (1 - t) - 1 = t * (2 / (1 - t)) := by grind
    rw [this]; grind
  rw [b1]
  have b2 := pw_div (a := (2 : Rat)) w1 N
  have b3 : (1 - t) ^ N * (κ0 * ((2 / (1 - t)) ^ N * evL Γ t)) = κ0 * ((1 - t) ^ N * (2 / (1 - t)) ^ N) * evL Γ t := by grind
  rw [b3, b2]
end EM
end

section
set_option Elab.async false
set_option linter.all false
namespace EM
open ShMat
theorem lead_split : ∀ f : Poly, (∃ i, co f i ≠ 0) → f.drop (f.takeWhile fun (q : Rat) => q == 0).length ≠ [] ∧ co (f.drop (f.takeWhile fun (q : Rat) => q == 0).length) 0 ≠ 0 ∧ f.length = (f.takeWhile fun (q : Rat) => q == 0).length + (f.drop (f.takeWhile fun (q : Rat) => q == 0).length).length ∧ ∀ i, co f i = shf (f.takeWhile fun (q : Rat) => q == 0).length (co (f.drop (f.takeWhile fun (q : Rat) => q == 0).length)) i
  | [], ⟨i, h⟩ => absurd (co_out (f := []) (Nat.zero_le i)) h
  | a :: t, ⟨i, h⟩ => by
    by_cases ha : a = 0
    · have e : (a :: t).takeWhile (fun (q : Rat) => q == 0) = a :: t.takeWhile (fun (q : Rat) => q == 0) := by
        rw [List.takeWhile_cons, if_pos (beq_iff_eq.mpr ha)]
      rw [e]
      show t.drop _ ≠ [] ∧ co (t.drop _) 0 ≠ 0 ∧ _ = _ + (t.drop _).length ∧ _
      have i0 : i ≠ 0 := fun z => h (by rw [z]; exact ha)
      obtain ⟨h1, h2, h3, h4⟩ := lead_split t ⟨i - 1, by
        obtain ⟨j, rfl⟩ : ∃ j, i = j + 1 := ⟨i - 1, by omega⟩
        exact h⟩
      refine ⟨h1, h2, ?_, fun k => ?_⟩
      · simp only [List.length_cons] at h3 ⊢
        omega
      · cases k with
        | zero => show a = shf (_ + 1) _ 0; rw [shf_succ0, ha]
        | succ k => show co t k = shf (_ + 1) _ (k + 1); rw [shf_succ, h4 k]; rfl
    · have e : (a :: t).takeWhile (fun (q : Rat) => q == 0) = [] := by
        rw [List.takeWhile_cons, if_neg (fun w => ha (beq_iff_eq.mp w))]
      rw [e]
      exact ⟨by simp, ha, by simp, fun k => by show _ = shf 0 (co (a :: t)) k; rw [shf_zero]⟩
theorem sides_nil (n : Nat) : sidesFrom n [] = (0, 0) := by
  cases n with
  | zero => rfl
  | succ n => rfl
theorem side_core (n : Nat) {f : Poly} (tf : Tr f) (nf : f ≠ []) {gs : List ((Nat → Rat) × Rat)} (hs : Sqs (f.length - 1) (quadF (f.length - 1) (bz (axB (mobF (f.length - 1) (co f)).c) (axA (mobF (f.length - 1) (co f)).c))) gs) :
    ∃ g : Poly, Tr g ∧ g ≠ [] ∧ g.length ≤ f.length ∧ sidesFrom (n + 1) f = (cntP gs + (sidesFrom n (derived g)).2, cntN gs + (sidesFrom n (derived g)).2) ∧
      ∀ (m : Nat) (Γ : Poly) (σ : Rat) (K : PS), m ≤ f.length - 1 → (∀ i, m < i → (mobF (f.length - 1) (co f)).c i = 0) → Tr Γ → Γ ≠ [] → σ * σ = 1 → (∀ x, evL Γ (-x) = σ * evL Γ x) → FS K →
        (∀ i, (if i % 2 = 0 then (mobF (f.length - 1) (co f)).c i else - (mobF (f.length - 1) (co f)).c i) = (K * toP Γ).c i) → m ≤ cntP gs + cntN gs + (Γ.length - 1) →
        ∃ κ, κ ≠ 0 ∧ g.length + m = f.length + (Γ.length - 1) ∧ ∀ i, (mobF (g.length - 1) (co g)).c i = κ * co Γ i := by
  obtain ⟨nh, h0, fl, hf⟩ := lead_split f ⟨f.length - 1, tf.last nf⟩
  have hdef : sidesFrom (n + 1) f = if (f.drop (f.takeWhile fun (q : Rat) => q == 0).length).length ≤ 1 then ((f.takeWhile fun (q : Rat) => q == 0).length, 0) else ((f.takeWhile fun (q : Rat) => q == 0).length + (signs (circleForm (divide (f.drop (f.takeWhile fun (q : Rat) => q == 0).length) (common (f.drop (f.takeWhile fun (q : Rat) => q == 0).length) (f.drop (f.takeWhile fun (q : Rat) => q == 0).length).reverse)).1)).1 + (sidesFrom n (derived (common (f.drop (f.takeWhile fun (q : Rat) => q == 0).length) (f.drop (f.takeWhile fun (q : Rat) => q == 0).length).reverse))).2, (signs (circleForm (divide (f.drop (f.takeWhile fun (q : Rat) => q == 0).length) (common (f.drop (f.takeWhile fun (q : Rat) => q == 0).length) (f.drop (f.takeWhile fun (q : Rat) => q == 0).length).reverse)).1)).2.1 + (sidesFrom n (derived (common (f.drop (f.takeWhile fun (q : Rat) => q == 0).length) (f.drop (f.takeWhile fun (q : Rat) => q == 0).length).reverse))).2) := rfl
  generalize (f.takeWhile fun (q : Rat) => q == 0).length = z at *
  generalize f.drop z = h at *
  have lf : 0 < f.length := List.length_pos_iff.mpr nf
  have lh : 0 < h.length := List.length_pos_iff.mpr nh
  have th : Tr h := by
    right
    have e : h.getLastD 0 = co h (h.length - 1) := leading_co
    have := tf.last nf
    rw [hf] at this
    unfold shf at this
    rw [if_neg (by omega), show f.length - 1 - z = h.length - 1 by omega] at this
    rw [e]; exact this
  obtain ⟨q, c, tq, nq, q0, g0, ng, tg, E, hd, cc, hr, hu⟩ := self_rev th nh h0
  rw [hd] at hdef
  generalize common h h.reverse = g at *
  obtain ⟨gl, _, _⟩ := rev_mul th tq tg nq ng E
  have lq : 0 < q.length := List.length_pos_iff.mpr nq
  have lg : 0 < g.length := List.length_pos_iff.mpr ng
  obtain ⟨fs, f1, f2, f3⟩ := circ_parts hf fl nh th ng tg nq tq E cc hr
  obtain ⟨c1, c2⟩ := circ_axis (n := f.length - 1) (f := co f) (F := (mobF (f.length - 1) (co f)).c) (mobF_hi _ _) (fun u hu => mobF_val _ _ hu) f1 hs
  rw [c1] at f2
  rw [c2] at f3
  obtain ⟨ks, s1, s2, s3⟩ := cf_sqs q
  have kl := cnt_le ks
  rw [s1.len, s2, s3] at kl
  refine ⟨g, tg, ng, by omega, ?_, ?_⟩
  · rw [hdef]
    by_cases h1 : h.length ≤ 1
    · rw [if_pos h1]
      have dg : derived g = [] := by
        unfold derived
        rw [show g.length - 1 = 0 by omega]; rfl
      rw [dg, sides_nil, f2, f3]
      have a1 : (signs (circleForm q)).1 = 0 := by omega
      have a2 : (signs (circleForm q)).2.1 = 0 := by omega
      rw [a1, a2]; rfl
    · rw [if_neg h1, f2, f3]
  · intro m Γ σ K hm hF tΓ nΓ σσ hσ fK hK hc
    exact ident tf nf hf fl nh th h0 ng tg hu hm hF tΓ nΓ σσ hσ fK hK (by omega)
end EM
end

section
set_option Elab.async false
set_option linter.all false
namespace EM
open ShMat
def derZ (p : List Int) : List Int := ((List.range p.length).map fun (k : Nat) => (k : Int) * coZ p k).drop 1
theorem derZ_len (p : List Int) : (derZ p).length = p.length - 1 := by unfold derZ; simp
theorem coZ_der (p : List Int) (k : Nat) : coZ (derZ p) k = ((k + 1 : Nat) : Int) * coZ p (k + 1) := by
  have e : coZ (derZ p) k = coZ ((List.range p.length).map fun (k : Nat) => (k : Int) * coZ p k) (k + 1) := by
    unfold derZ coZ
    rw [List.getD_eq_getElem?_getD, List.getD_eq_getElem?_getD, List.getElem?_drop, Nat.add_comm 1 k]
  rw [e, coZ_range]
  by_cases h : k + 1 < p.length
  · rw [if_pos h]
  · rw [if_neg h, coZ_out (f := p) (by omega)]; simp
theorem derZ_tr {p : List Int} (h : TrZ p) : TrZ (derZ p) := by
  by_cases hl : p.length ≤ 1
  · left; exact List.length_eq_zero_iff.mp (by rw [derZ_len]; omega)
  · right
    rw [derZ_len, coZ_der, show p.length - 1 - 1 + 1 = p.length - 1 by omega]
    have hp : p ≠ [] := fun z => by rw [z] at hl; simp at hl
    exact fun z => (by
      rcases Int.mul_eq_zero.mp z with w | w
      · omega
      · exact h.ld hp w)
def rrT : Nat → List Int → Int
  | 0, _ => 0
  | n + 1, p => if p.length ≤ 1 then 0 else polT p.length p (derZ p) + rrT n (lasT p.length p (derZ p))
theorem cz_der (G : List Int) (i : Nat) : cz (derZ G) i = ((i + 1 : Nat) : Rat) * cz G (i + 1) := by
  unfold cz
  rw [coZ_der, Rat.intCast_mul, Rat.intCast_natCast]
/-- the form of the derivative -/
theorem bz_E (G : List Int) (N : Rat) (i j : Nat) : bz (fun t => N * cz G t - (t : Rat) * cz G t) (cz (derZ G)) i j = N * bz (cz G) (cz (derZ G)) i j - cz (derZ G) i * cz (derZ G) j := by
  have e : (fun t => N * cz G t - (t : Rat) * cz G t) = fun t => N * cz G t + (-1) * shf 1 (cz (derZ G)) t := by
    funext t
    cases t with
    | zero => rw [shf_succ0]; have : ((0 : Nat) : Rat) = 0 := rfl; rw [this]; grind
    | succ t => rw [shf_succ, shf_zero, cz_der]; grind
  rw [e, bz_add, bz_mul, bz_mul, bz_shift (cz (derZ G)) 1 i j]
  have : sm 1 (fun l => shf l (cz (derZ G)) i * shf (1 - 1 - l) (cz (derZ G)) j) = cz (derZ G) i * cz (derZ G) j := by
    show (0 : Rat) + shf 0 (cz (derZ G)) i * shf 0 (cz (derZ G)) j = _
    rw [shf_zero]; grind
  rw [this]; grind
theorem polT_step {n : Nat} {p q : List Int} (nq : q ≠ []) : polT (n + 1) p q = sgn1 p q + polT n q (nxt p q) := by
  show (if q = [] then (0 : Int) else _) = _; rw [if_neg nq]
theorem lasT_step {n : Nat} {p q : List Int} (nq : q ≠ []) : lasT (n + 1) p q = lasT n q (nxt p q) := by
  show (if q = [] then p else _) = _; rw [if_neg nq]
theorem polT_nil (n : Nat) (p : List Int) : polT n p [] = 0 ∧ lasT n p [] = p := by
  cases n with
  | zero => exact ⟨rfl, rfl⟩
  | succ n => exact ⟨if_pos rfl, if_pos rfl⟩
theorem dform {G : List Int} (hG : TrZ G) (nG : G ≠ []) {N : Nat} (hN : 1 ≤ N) (hNe : G.length - 1 ≤ N) : ∃ gs, Sqs (N - 1) (quadF (N - 1) (bz (fun t => (N : Rat) * cz G t - (t : Rat) * cz G t) (cz (derZ G)))) gs ∧ 2 * (cntN gs : Int) + polT G.length G (derZ G) + ((lasT G.length G (derZ G)).length : Int) = (G.length : Int) ∧ cntP gs + cntN gs + (lasT G.length G (derZ G)).length + (if N = G.length - 1 then 1 else 0) = G.length := by
  have lG : 0 < G.length := List.length_pos_iff.mpr nG
  by_cases h1 : G.length ≤ 1
  · have dn : derZ G = [] := List.length_eq_zero_iff.mp (by rw [derZ_len]; omega)
    rw [dn, (polT_nil _ _).1, (polT_nil _ _).2]
    obtain ⟨gs, g1, g2, g3⟩ := Sqs.zero (N - 1) (quadF (N - 1) (bz (fun t => (N : Rat) * cz G t - (t : Rat) * cz G t) (cz []))) (fun x => sm_zero fun i _ => sm_zero fun j _ => by
      have : bz (fun t => (N : Rat) * cz G t - (t : Rat) * cz G t) (cz []) i j = 0 := by
        unfold bz
        exact sm_zero fun a _ => by rw [cz_out (w := []) (Nat.zero_le _), cz_out (w := []) (Nat.zero_le _)]; grind
      rw [this]; grind)
    refine ⟨gs, g1, by rw [g3]; simp, by rw [g2, g3, if_neg (by omega)]; omega⟩
  · obtain ⟨e, he⟩ : ∃ e, G.length = e + 1 + 1 := ⟨G.length - 2, by omega⟩
    have dl : (derZ G).length = e + 1 := by rw [derZ_len]; omega
    have nd : derZ G ≠ [] := fun z => by rw [z] at dl; simp at dl
    have td := derZ_tr hG
    obtain ⟨tn, ln⟩ := nxt_tr hG td nd
    obtain ⟨fs, s1, s2, s3⟩ := sturm (e + 1) (derZ G) (nxt G (derZ G)) td tn nd ln (by omega)
    obtain ⟨s, c, s0, c0, hQ, hx⟩ := bz_step hG td nd (by omega)
    rw [dl, he] at hx hQ
    rw [dl] at s1 s3
    simp only [Nat.add_sub_cancel] at hx s1
    rw [show e + 1 + 1 - (e + 1) = 1 by omega] at hx hQ
    have lp : cz G (e + 1) ≠ 0 := fun z => hG.ld nG (castQ_zero.mp (by unfold ldZ; rw [he]; exact z))
    have ld : cz (derZ G) e = ((e + 1 : Nat) : Rat) * cz G (e + 1) := cz_der G e
    have e0 : ((e + 1 : Nat) : Rat) ≠ 0 := fun z => by
      have : ((e + 1 : Nat) : Rat) = ((0 : Nat) : Rat) := z
      have : e + 1 = 0 := by exact_mod_cast this
      omega
    have ld0 : cz (derZ G) e ≠ 0 := by rw [ld]; exact mul_ne e0 lp
    -- the quotient's leading one
    have hQ1 : cz (divZ G (derZ G)).q 1 * ((e + 1 : Nat) : Rat) = s := by
      have : cz (divZ G (derZ G)).q 1 = s * cz G (e + 1) / cz (derZ G) e := hQ
      rw [this, ld]; grind
    have sg : sgn1 G (derZ G) = 1 := by
      unfold sgn1
      rw [if_neg (by omega), if_pos]
      unfold ldZ
      rw [dl, he, Nat.add_sub_cancel, Nat.add_sub_cancel, coZ_der]
      refine decide_eq_decide.mpr ⟨fun h => Int.mul_pos (by omega) h, fun h => ?_⟩
      apply Classical.byContradiction
      intro w
      have := Int.mul_nonpos_of_nonneg_of_nonpos (show (0 : Int) ≤ ((e + 1 : Nat) : Int) by omega) (show coZ G (e + 1) ≤ 0 by omega)
      omega
    have pe : polT G.length G (derZ G) = 1 + polT (e + 1) (derZ G) (nxt G (derZ G)) := by rw [he, polT_step nd, sg]
    have le : lasT G.length G (derZ G) = lasT (e + 1) (derZ G) (nxt G (derZ G)) := by rw [he, lasT_step nd]
    rw [pe, le]
    have sn : s ≠ 0 := fun z => by rw [z] at s0; exact absurd s0 (by decide)
    have Np : (0 : Rat) < (N : Rat) := by exact_mod_cast (show 0 < N by omega)
    have ep : (0 : Rat) < ((e + 1 : Nat) : Rat) := by exact_mod_cast (show 0 < e + 1 by omega)
    have si : (0 : Rat) < 1 / s := by
      have i1 := inv_ne sn
      apply Classical.byContradiction
      intro w
      have := Rat.mul_nonneg (Rat.le_of_lt s0) (show 0 ≤ -(1 / s) by grind)
      grind
    have cs : (0 : Rat) < (N : Rat) * c * (1 / s) := Rat.mul_pos (Rat.mul_pos Np c0) si
    -- the form, of e + 1 unknowns
    have h1q : ∀ X : Nat → Rat, quadF 1 (hM 1 (cz (divZ G (derZ G)).q)) X = cz (divZ G (derZ G)).q 1 * (X 0 * X 0) := fun X => by
      show (0 : Rat) + (0 + hM 1 (cz (divZ G (derZ G)).q) 0 0 * (X 0 * X 0)) = _
      have : hM 1 (cz (divZ G (derZ G)).q) 0 0 = cz (divZ G (derZ G)).q 1 := by unfold hM; rw [if_pos (by omega)]
      rw [this]; grind
    have form : ∀ x, quadF (e + 1) (bz (fun t => (N : Rat) * cz G t - (t : Rat) * cz G t) (cz (derZ G))) x = ((N : Rat) * (1 / ((e + 1 : Nat) : Rat)) - 1) * (dot (e + 1) (cz (derZ G)) x * dot (e + 1) (cz (derZ G)) x) + (N : Rat) * c * (1 / s) * quadF e (bz (cz (derZ G)) (cz (nxt G (derZ G)))) x := fun x => by
      have a1 : quadF (e + 1) (bz (fun t => (N : Rat) * cz G t - (t : Rat) * cz G t) (cz (derZ G))) x = quadF (e + 1) (fun i j => (N : Rat) * bz (cz G) (cz (derZ G)) i j + (-1) * (sm 1 fun l => cz (derZ G) i * cz (derZ G) j)) x := quadF_congr (fun i _ j _ => by
        rw [bz_E]
        show _ = _ + (-1) * ((0 : Rat) + _)
        grind) (fun _ _ => rfl)
      rw [a1, quadF_add, quadF_mul, quadF_mul, quadF_prod (e + 1) 1 (fun _ => cz (derZ G)) (fun _ => cz (derZ G))]
      have a2 := hx x
      rw [h1q, shf_zero] at a2
      have a3 : quadF (e + 1) (bz (cz G) (cz (derZ G))) x = (1 / s) * (s * quadF (e + 1) (bz (cz G) (cz (derZ G))) x) := by have := inv_ne sn; grind
      rw [a3, a2]
      show _ + (-1) * ((0 : Rat) + dot (e + 1) (cz (derZ G)) x * dot (e + 1) (cz (derZ G)) x) = _
      have a4 : 1 / s * cz (divZ G (derZ G)).q 1 = 1 / ((e + 1 : Nat) : Rat) := by
        have i1 := inv_ne sn
        have i2 := inv_ne e0
        grind
      grind
    by_cases hc : N = e + 1
    · -- one unknown less
      have z0 : (N : Rat) * (1 / ((e + 1 : Nat) : Rat)) - 1 = 0 := by rw [hc]; have := inv_ne e0; grind
      obtain ⟨gs, g1, g2, g3⟩ := Sqs.padc (N := N - 1) (by omega) s1 cs (Q' := quadF (N - 1) (bz (fun t => (N : Rat) * cz G t - (t : Rat) * cz G t) (cz (derZ G)))) (fun x => by
        have hz : quadF (e + 1) (bz (fun t => (N : Rat) * cz G t - (t : Rat) * cz G t) (cz (derZ G))) x = quadF e (bz (fun t => (N : Rat) * cz G t - (t : Rat) * cz G t) (cz (derZ G))) x := quadF_less (by omega) (fun i j h => bz_hi (d := e) (fun t ht => by
          by_cases w : t = e + 1
          · rw [w, hc]; grind
          · rw [cz_out (by omega)]; grind) (fun t ht => cz_out (by omega)) h) x
        rw [show N - 1 = e by omega, ← hz, form x, z0]; grind)
      refine ⟨gs, g1, by rw [g3]; omega, by rw [g2, g3, if_pos (by omega)]; omega⟩
    · have z0 : (0 : Rat) < (N : Rat) * (1 / ((e + 1 : Nat) : Rat)) - 1 := by
        have lt : ((e + 1 : Nat) : Rat) < (N : Rat) := by exact_mod_cast (show e + 1 < N by omega)
        have i1 := inv_ne e0
        have ip : (0 : Rat) < 1 / ((e + 1 : Nat) : Rat) := by
          apply Classical.byContradiction
          intro w
          have := Rat.mul_nonneg (Rat.le_of_lt ep) (show 0 ≤ -(1 / ((e + 1 : Nat) : Rat)) by grind)
          grind
        have := Rat.mul_pos (show 0 < (N : Rat) - ((e + 1 : Nat) : Rat) by grind) ip
        grind
      obtain ⟨us, u1, u2, u3⟩ := Sqs.units 1
      obtain ⟨hs, k1, k2, k3⟩ := Sqs.join (N := e + 1) (d := e) (k := 1) (q := cz (derZ G)) (by omega) ld0 (fun i hi => cz_out (by omega)) u1 s1 (Q := quadF (e + 1) (bz (fun t => (N : Rat) * cz G t - (t : Rat) * cz G t) (cz (derZ G)))) (a := (N : Rat) * (1 / ((e + 1 : Nat) : Rat)) - 1) (b := (N : Rat) * c * (1 / s)) z0 cs (fun x => by
        rw [form x]
        congr 2
        show _ = (0 : Rat) + dot (e + 1) (shf 0 (cz (derZ G))) x * dot (e + 1) (shf 0 (cz (derZ G))) x
        rw [shf_zero]; grind)
      obtain ⟨gs, g1, g2, g3⟩ := Sqs.padc (N := N - 1) (by omega) k1 (c := 1) (by decide) (Q' := quadF (N - 1) (bz (fun t => (N : Rat) * cz G t - (t : Rat) * cz G t) (cz (derZ G)))) (fun x => by
        rw [quadF_less (m := e + 1) (N := N - 1) (by omega) (fun i j h => bz_hi (d := e + 1) (fun t ht => by rw [cz_out (by omega)]; grind) (fun t ht => cz_out (by omega)) h)]; grind)
      refine ⟨gs, g1, by rw [g3, k3, u3]; omega, by rw [g2, g3, k2, k3, u2, u3, if_neg (by omega)]; omega⟩
end EM
end

section
set_option Elab.async false
set_option linter.all false
namespace EM
open ShMat
theorem derived_co (g : Poly) (k : Nat) : co (derived g) k = ((k + 1 : Nat) : Rat) * co g (k + 1) := by
  unfold derived
  rw [co_trim, co_range]
  by_cases h : k < g.length - 1
  · rw [if_pos h]
  · rw [if_neg h, co_out (f := g) (by omega)]; grind
theorem derived_len {g : Poly} (tg : Tr g) (ng : g ≠ []) : (derived g).length = g.length - 1 := by
  have h1 : (derived g).length ≤ g.length - 1 := by unfold derived; have := trim_len ((List.range (g.length - 1)).map fun (k : Nat) => ((k + 1 : Nat) : Rat) * co g (k + 1)); simpa using this
  by_cases h : g.length - 1 ≤ (derived g).length
  · omega
  · have e := derived_co g (g.length - 2)
    rw [co_out (by omega), show g.length - 2 + 1 = g.length - 1 by omega] at e
    have := tg.last ng
    rcases Rat.mul_eq_zero.mp e.symm with w | w
    · have : ((g.length - 1 : Nat) : Rat) = ((0 : Nat) : Rat) := w
      have : g.length - 1 = 0 := by exact_mod_cast this
      omega
    · exact absurd w this
theorem derived_tr (g : Poly) : Tr (derived g) := trim_tr _
theorem lin_mul (p : PS) (i : Nat) : (lin 1 (-1) * p).c i = p.c i - (if i = 0 then 0 else p.c (i - 1)) := by
  rw [PS.mul_c]
  cases i with
  | zero => show (0 : Rat) + 1 * p.c 0 = _; rw [if_pos rfl]; grind
  | succ i =>
    rw [sm_first', sm_first', sm_zero (fun a _ => by
      show (if a + 1 + 1 = 0 then (1 : Rat) else if a + 1 + 1 = 1 then -1 else 0) * _ = 0
      rw [if_neg (by omega), if_neg (by omega)]; grind), if_neg (by omega)]
    show (1 : Rat) * p.c (i + 1) + ((-1) * p.c (i + 1 - 1) + 0) = _
    grind
theorem bz_scal (a b : Rat) (p q : Nat → Rat) (i j : Nat) : bz (fun t => a * p t) (fun t => b * q t) i j = a * b * bz p q i j := by
  rw [bz_mul, bz_anti, bz_mul, bz_anti q p]; grind
theorem Dvs.len {e f : Poly} (h : Dvs e f) (te : Tr e) (ne : e ≠ []) (tf : Tr f) (nf : f ≠ []) : e.length ≤ f.length := by
  obtain ⟨u, hu⟩ := h
  have hu' : toP f = toP (trim u) * toP e := by rw [toP_trim]; exact hu
  have nu : trim u ≠ [] := fun w => nf (by
    rw [w, toP_nil] at hu'
    exact tf.toP_inj (.inl rfl) (by rw [hu', toP_nil]; grind))
  have := (rev_mul tf (trim_tr u) te nu ne hu').1
  have : 0 < (trim u).length := List.length_pos_iff.mpr nu
  omega
/-- turned to the axis, as a polynomial -/
def tauL (L : List Int) : Poly := (List.range L.length).map fun i => eps i * cz L i
theorem tauL_len (L : List Int) : (tauL L).length = L.length := by unfold tauL; simp
theorem tauL_co (L : List Int) (i : Nat) : co (tauL L) i = eps i * cz L i := by
  unfold tauL
  rw [co_range]
  by_cases h : i < L.length
  · rw [if_pos h]
  · rw [if_neg h, cz_out (by omega)]; grind
theorem tauL_P (L : List Int) : toP (tauL L) = tau (zP L) := by
  ext i
  rw [toP_c, tauL_co, tau_c, zP_c]; rfl
theorem eps_ne (i : Nat) : eps i ≠ 0 := fun z => by have := eps_sq i; rw [z] at this; grind
theorem tauL_ok {L : List Int} (tL : TrZ L) (nL : L ≠ []) : Tr (tauL L) ∧ tauL L ≠ [] := by
  have ll : 0 < L.length := List.length_pos_iff.mpr nL
  have n : tauL L ≠ [] := fun z => by have := tauL_len L; rw [z] at this; simp at this; omega
  refine ⟨?_, n⟩
  right
  have : (tauL L).getLastD 0 = co (tauL L) ((tauL L).length - 1) := leading_co
  rw [this, tauL_len, tauL_co]
  exact mul_ne (eps_ne _) (fun z => tL.ld nL (castQ_zero.mp z))
theorem tauL_par {L : List Int} {r : Nat} (hr : r < 2) (hL : Par r L) : ∃ σ : Rat, σ * σ = 1 ∧ ∀ x, evL (tauL L) (-x) = σ * evL (tauL L) x := by
  refine ⟨if r = 0 then 1 else -1, by split <;> decide +kernel, fun x => ?_⟩
  unfold evL
  rw [ev_neg, ← ev_mulc]
  refine ev_congr (fun i _ => ?_) x
  rw [tauL_co]
  by_cases h : i % 2 = r
  · by_cases h0 : i % 2 = 0
    · rw [if_pos h0, if_pos (by omega)]; grind
    · rw [if_neg h0, if_neg (by omega)]; grind
  · have : cz L i = 0 := by unfold cz; rw [hL i h]; rfl
    rw [this]; split <;> split <;> grind
theorem side_real : ∀ (d fuel k : Nat) (g : Poly) (G : List Int) (κ : Rat) (r : Nat), g.length ≤ d → Tr g → g ≠ [] → TrZ G → G ≠ [] → r < 2 → Par r G → κ ≠ 0 → (∀ i, (mobF (g.length - 1) (co g)).c i = κ * (eps i * cz G i)) → (derived g).length ≤ fuel → G.length ≤ k → 2 * ((sidesFrom fuel (derived g)).2 : Int) + rrT k G = (G.length : Int) - 1
  | 0, fuel, k, g, G, κ, r, hd, tg, ng, _, _, _, _, _, _, _, _ => absurd (List.length_eq_zero_iff.mp (by omega)) ng
  | d + 1, fuel, k, g, G, κ, r, hd, tg, ng, tG, nG, hr, hpar, κ0, hm, hfu, hk => by
    have lg : 0 < g.length := List.length_pos_iff.mpr ng
    have lG : 0 < G.length := List.length_pos_iff.mpr nG
    have Gz : ∀ i, g.length - 1 < i → coZ G i = 0 := fun i hi => by
      have := hm i
      rw [mobF_hi _ _ i hi] at this
      rcases Rat.mul_eq_zero.mp this.symm with w | w
      · exact absurd w κ0
      · rcases Rat.mul_eq_zero.mp w with w | w
        · exact absurd w (eps_ne i)
        · exact castQ_zero.mp w
    have Gl : G.length ≤ g.length := by
      have := tG.len_le (m := g.length - 1 + 1) (fun i hi => Gz i (by omega))
      omega
    obtain ⟨k', rfl⟩ : ∃ k', k = k' + 1 := ⟨k - 1, by omega⟩
    have rr1 : ∀ H : List Int, H.length ≤ 1 → rrT (k' + 1) H = 0 := fun H h => by show (if H.length ≤ 1 then (0 : Int) else _) = 0; rw [if_pos h]
    by_cases h1 : g.length = 1
    · have dg : derived g = [] := List.length_eq_zero_iff.mp (by rw [derived_len tg ng]; omega)
      rw [dg, sides_nil, rr1 G (by omega)]
      show 2 * ((0 : Nat) : Int) + 0 = _
      omega
    · obtain ⟨n, hn⟩ : ∃ n, g.length = n + 2 := ⟨g.length - 2, by omega⟩
      have lP : (derived g).length = n + 1 := by rw [derived_len tg ng]; omega
      have nP : derived g ≠ [] := fun z => by rw [z] at lP; simp at lP
      have tP := derived_tr g
      obtain ⟨fu, rfl⟩ : ∃ fu, fuel = fu + 1 := ⟨fuel - 1, by omega⟩
      -- the derivative, moved
      have mdv := mob_dv n (co g)
      have eP : mobF n (fun k => ((k + 1 : Nat) : Rat) * co g (k + 1)) = mobF ((derived g).length - 1) (co (derived g)) := by
        rw [lP, Nat.add_sub_cancel]; congr 1; funext k; exact (derived_co g k).symm
      rw [show g.length - 1 = n + 1 by omega] at hm
      rw [eP] at mdv
      have FPc : ∀ i, (mobF ((derived g).length - 1) (co (derived g))).c i = κ / 2 * (eps (i + 1) * cz (derZ G) i + eps i * (((n + 1 : Nat) : Rat) * cz G i - (i : Rat) * cz G i)) := fun i => by
        have e : (PS.cst 2 * mobF ((derived g).length - 1) (co (derived g))).c i = (lin 1 (-1) * dv (mobF (n + 1) (co g)) + PS.cst ((n + 1 : Nat) : Rat) * mobF (n + 1) (co g)).c i := by rw [mdv]
        rw [PS.cst_mul, PS.add_c, PS.cst_mul, lin_mul, hm i] at e
        have e1 : (dv (mobF (n + 1) (co g))).c i = ((i + 1 : Nat) : Rat) * (κ * (eps (i + 1) * cz G (i + 1))) := by
          show ((i + 1 : Nat) : Rat) * (mobF (n + 1) (co g)).c (i + 1) = _
          rw [hm]
        have e2 : (if i = 0 then (0 : Rat) else (dv (mobF (n + 1) (co g))).c (i - 1)) = (i : Rat) * (κ * (eps i * cz G i)) := by
          by_cases c : i = 0
          · rw [if_pos c, c]; have : ((0 : Nat) : Rat) = 0 := rfl; rw [this]; grind
          · rw [if_neg c]
            show ((i - 1 + 1 : Nat) : Rat) * (mobF (n + 1) (co g)).c (i - 1 + 1) = _
            rw [hm, show i - 1 + 1 = i by omega]
        rw [e1, e2] at e
        rw [cz_der]
        have two : (2 : Rat) * (κ / 2) = κ := by grind
        have : 2 * ((mobF ((derived g).length - 1) (co (derived g))).c i - κ / 2 * (eps (i + 1) * (((i + 1 : Nat) : Rat) * cz G (i + 1)) + eps i * (((n + 1 : Nat) : Rat) * cz G i - (i : Rat) * cz G i))) = 0 := by
          grind
        rcases Rat.mul_eq_zero.mp this with w | w
        · exact absurd w (by decide)
        · grind
      have par0 : ∀ i, i % 2 ≠ r → cz G i = 0 := fun i hi => by unfold cz; rw [hpar i hi]; rfl
      have par1 : ∀ i, i % 2 = r → cz (derZ G) i = 0 := fun i hi => by rw [cz_der, par0 (i + 1) (by omega)]; grind
      -- its two parts
      obtain ⟨a, b, a1, sg⟩ : ∃ a b : Rat, a * a = 1 ∧ ((∀ i, axA (mobF ((derived g).length - 1) (co (derived g))).c i = b * cz (derZ G) i) ∧ (∀ i, axB (mobF ((derived g).length - 1) (co (derived g))).c i = κ / 2 * (((n + 1 : Nat) : Rat) * cz G i - (i : Rat) * cz G i)) ∧ b = κ / 2 ∨ (∀ i, axB (mobF ((derived g).length - 1) (co (derived g))).c i = b * cz (derZ G) i) ∧ (∀ i, axA (mobF ((derived g).length - 1) (co (derived g))).c i = κ / 2 * (((n + 1 : Nat) : Rat) * cz G i - (i : Rat) * cz G i)) ∧ b = - (κ / 2)) := by
        refine ⟨1, if r = 0 then -(κ / 2) else κ / 2, by decide +kernel, ?_⟩
        by_cases h0 : r = 0
        · right
          rw [if_pos h0]
          refine ⟨fun i => ?_, fun i => ?_, rfl⟩
          · unfold axB
            by_cases c : i % 2 = 1
            · rw [if_pos c, FPc, par0 i (by omega), eps_odd c]; have := eps_sq i; grind
            · rw [if_neg c, par1 i (by omega)]; grind
          · unfold axA
            by_cases c : i % 2 = 0
            · rw [if_pos c, FPc, par1 i (by omega)]; have := eps_sq i; grind
            · rw [if_neg c, par0 i (by omega)]; grind
        · left
          rw [if_neg h0]
          refine ⟨fun i => ?_, fun i => ?_, rfl⟩
          · unfold axA
            by_cases c : i % 2 = 0
            · rw [if_pos c, FPc, par0 i (by omega), eps_even c]; have := eps_sq i; grind
            · rw [if_neg c, par1 i (by omega)]; grind
          · unfold axB
            by_cases c : i % 2 = 1
            · rw [if_pos c, FPc, par1 i (by omega)]; have := eps_sq i; grind
            · rw [if_neg c, par0 i (by omega)]; grind
      have κ2 : κ / 2 ≠ 0 := fun z => κ0 (by grind)
      have sqp : (0 : Rat) < κ / 2 * (κ / 2) := by
        apply Classical.byContradiction
        intro w
        rcases Rat.le_total (a := 0) (b := κ / 2) with p | p
        · have : 0 ≤ κ / 2 * (κ / 2) := Rat.mul_nonneg p p
          have : κ / 2 * (κ / 2) = 0 := by grind
          exact mul_ne κ2 κ2 this
        · have : 0 ≤ (-(κ / 2)) * (-(κ / 2)) := Rat.mul_nonneg (by grind) (by grind)
          have : κ / 2 * (κ / 2) = 0 := by grind
          exact mul_ne κ2 κ2 this
      have bzE : ∀ i j, bz (axB (mobF ((derived g).length - 1) (co (derived g))).c) (axA (mobF ((derived g).length - 1) (co (derived g))).c) i j = κ / 2 * (κ / 2) * bz (fun t => ((n + 1 : Nat) : Rat) * cz G t - (t : Rat) * cz G t) (cz (derZ G)) i j := fun i j => by
        rcases sg with ⟨sA, sB, hb⟩ | ⟨sB, sA, hb⟩
        · rw [show axA (mobF ((derived g).length - 1) (co (derived g))).c = fun i => b * cz (derZ G) i from funext sA, show axB (mobF ((derived g).length - 1) (co (derived g))).c = fun i => κ / 2 * (((n + 1 : Nat) : Rat) * cz G i - (i : Rat) * cz G i) from funext sB, bz_scal, hb]
        · rw [show axA (mobF ((derived g).length - 1) (co (derived g))).c = fun i => κ / 2 * (((n + 1 : Nat) : Rat) * cz G i - (i : Rat) * cz G i) from funext sA, show axB (mobF ((derived g).length - 1) (co (derived g))).c = fun i => b * cz (derZ G) i from funext sB, bz_scal, hb, bz_anti]; grind
      obtain ⟨gs0, q1, q2, q3⟩ := dform tG nG (N := n + 1) (by omega) (by omega)
      obtain ⟨gs, g1, g2, g3⟩ := Sqs.padc (N := (derived g).length - 1) (by omega) q1 sqp (Q' := quadF ((derived g).length - 1) (bz (axB (mobF ((derived g).length - 1) (co (derived g))).c) (axA (mobF ((derived g).length - 1) (co (derived g))).c))) (fun x => by
        rw [← quadF_mul, show (derived g).length - 1 = n + 1 - 1 by omega]
        rw [show (derived g).length - 1 = n + 1 - 1 by omega] at bzE
        exact quadF_congr (fun i _ j _ => bzE i j) (fun _ _ => rfl))
      obtain ⟨g', tg', ng', lg', hs', hid⟩ := side_core fu tP nP g1
      -- the last of the chain
      obtain ⟨tL, nL, dL1, dL2, _, pL⟩ := las_spec G.length G (derZ G) tG (derZ_tr tG) nG (by rw [derZ_len]; omega)
      have parD : Par (1 - r) (derZ G) := fun i hi => by rw [coZ_der, hpar (i + 1) (by omega)]; simp
      obtain ⟨r', hr', pL⟩ := pL r (1 - r) hr (by omega) hpar parD
      have Ll : G.length ≤ 1 → lasT G.length G (derZ G) = G := fun h => by
        have : derZ G = [] := List.length_eq_zero_iff.mp (by rw [derZ_len]; omega)
        rw [this, (polT_nil _ _).2]
      have Ll2 : 1 < G.length → (lasT G.length G (derZ G)).length < G.length := fun h => by
        have nd : derZ G ≠ [] := fun z => by have := derZ_len G; rw [z] at this; simp at this; omega
        have := dL2.len tL.tr (fun z => nL (cast_nil.mp z)) (derZ_tr tG).tr (fun z => nd (cast_nil.mp z))
        rw [cast_len, cast_len, derZ_len] at this
        omega
      have p1 : G.length ≤ 1 → polT G.length G (derZ G) = 0 := fun h => by
        have : derZ G = [] := List.length_eq_zero_iff.mp (by rw [derZ_len]; omega)
        rw [this, (polT_nil _ _).1]
      have rrG : 1 < G.length → rrT (k' + 1) G = polT G.length G (derZ G) + rrT k' (lasT G.length G (derZ G)) := fun h => by
        show (if G.length ≤ 1 then (0 : Int) else _) = _; rw [if_neg (by omega)]
      generalize lasT G.length G (derZ G) = L at *
      have lL : 0 < L.length := List.length_pos_iff.mpr nL
      obtain ⟨u, hu⟩ := dL1
      obtain ⟨v, hv⟩ := dL2
      have hu : zP G = toP u * zP L := hu
      have hv : zP (derZ G) = toP v * zP L := hv
      have zpar : ∀ i, i % 2 ≠ r' → (zP L).c i = 0 := fun i hi => by rw [zP_c, pL i hi]; rfl
      have cE : ∀ i, ((n + 1 : Nat) : Rat) * cz G i - (i : Rat) * cz G i = ((PS.cst ((n + 1 : Nat) : Rat) * toP u + PS.cst (-1) * (XP 1 * toP v)) * zP L).c i := fun i => by
        have : (PS.cst ((n + 1 : Nat) : Rat) * toP u + PS.cst (-1) * (XP 1 * toP v)) * zP L = PS.cst ((n + 1 : Nat) : Rat) * zP G + PS.cst (-1) * (XP 1 * zP (derZ G)) := by rw [hu, hv]; grind
        rw [this, PS.add_c, PS.cst_mul, PS.cst_mul, XP_mul, zP_c]
        show _ = _ * cz G i + _
        cases i with
        | zero => rw [if_pos (by omega)]; have : ((0 : Nat) : Rat) = 0 := rfl; rw [this]; grind
        | succ i =>
          rw [if_neg (by omega), Nat.add_sub_cancel, zP_c]
          show _ = _ + -1 * cz (derZ G) i
          rw [cz_der]; grind
      have cD : ∀ i, cz (derZ G) i = (toP v * zP L).c i := fun i => by rw [← hv, zP_c]; rfl
      have fE : FS (PS.cst ((n + 1 : Nat) : Rat) * toP u + PS.cst (-1) * (XP 1 * toP v)) := ((FS.cst _).mul (FS.toP u)).add ((FS.cst _).mul ((FS.XP 1).mul (FS.toP v)))
      have scl : ∀ (c : Rat) (K : PS) (i : Nat), c * (K * zP L).c i = (PS.cst c * K * zP L).c i := fun c K i => by
        have : PS.cst c * K * zP L = PS.cst c * (K * zP L) := by grind
        rw [this, PS.cst_mul]
      obtain ⟨K, fK, hK⟩ : ∃ K, FS K ∧ ∀ i, (if i % 2 = 0 then (mobF ((derived g).length - 1) (co (derived g))).c i else - (mobF ((derived g).length - 1) (co (derived g))).c i) = (K * tau (zP L)).c i := by
        rcases sg with ⟨sA, sB, hb⟩ | ⟨sB, sA, hb⟩
        · exact dvs_tau hr' zpar ((FS.cst b).mul (FS.toP v)) ((FS.cst (κ / 2)).mul fE) (fun i => by rw [sA, cD, scl]) (fun i => by rw [sB, cE, scl])
        · exact dvs_tau hr' zpar ((FS.cst (κ / 2)).mul fE) ((FS.cst b).mul (FS.toP v)) (fun i => by rw [sA, cE, scl]) (fun i => by rw [sB, cD, scl])
      rw [← tauL_P] at hK
      obtain ⟨tΓ, nΓ⟩ := tauL_ok tL nL
      obtain ⟨σ, σσ, hσ⟩ := tauL_par hr' pL
      obtain ⟨κ', κ'0, _, hκ'⟩ := hid (if n + 1 = G.length - 1 then G.length - 2 else G.length - 1) (tauL L) σ K (by split <;> omega) (fun i hi => by
        rw [FPc, cz_der, cz_out (w := G) (i := i + 1) (by split at hi <;> omega)]
        by_cases c : i < G.length
        · have : n + 1 = i := by split at hi <;> omega
          rw [this]; grind
        · rw [cz_out (w := G) (by omega)]; grind) tΓ nΓ σσ hσ fK hK (by
          rw [tauL_len, g2, g3]
          split at q3
          · rw [if_pos (by assumption)]; omega
          · rw [if_neg (by assumption)]; omega)
      have hκ'' : ∀ i, (mobF (g'.length - 1) (co g')).c i = κ' * (eps i * cz L i) := fun i => by rw [hκ' i, tauL_co]
      rw [hs']
      show 2 * ((cntN gs + (sidesFrom fu (derived g')).2 : Nat) : Int) + _ = _
      have dl' : (derived g').length ≤ fu := by rw [derived_len tg' ng']; omega
      by_cases c1 : G.length ≤ 1
      · have ih := side_real d fu (k' + 1) g' L κ' r' (by omega) tg' ng' tL nL hr' pL κ'0 hκ'' dl' (by rw [Ll c1]; omega)
        have := p1 c1
        rw [rr1 G c1]
        rw [rr1 L (by rw [Ll c1]; omega)] at ih
        omega
      · have ih := side_real d fu k' g' L κ' r' (by omega) tg' ng' tL nL hr' pL κ'0 hκ'' dl' (by have := Ll2 (by omega); omega)
        rw [rrG (by omega)]
        omega
end EM
end

section
set_option Elab.async false
set_option linter.all false
namespace EM
open ShMat
theorem polT_more : ∀ (n m : Nat) (p q : List Int), TrZ p → TrZ q → q.length ≤ n → n ≤ m → polT n p q = polT m p q ∧ lasT n p q = lasT m p q
  | n, m, p, [], _, _, _, _ => by rw [(polT_nil n p).1, (polT_nil m p).1, (polT_nil n p).2, (polT_nil m p).2]; exact ⟨rfl, rfl⟩
  | 0, m, p, _ :: _, _, _, h, _ => by simp at h
  | n + 1, 0, p, _ :: _, _, _, _, h => by omega
  | n + 1, m + 1, p, b :: q', hp, hq, h1, h2 => by
    generalize hqe : b :: q' = q at *
    have nq : q ≠ [] := by rw [← hqe]; simp
    obtain ⟨tn, ln⟩ := nxt_tr hp hq nq
    obtain ⟨i1, i2⟩ := polT_more n m q (nxt p q) hq tn (by omega) (by omega)
    rw [polT_step nq, polT_step nq, lasT_step nq, lasT_step nq, i1, i2]
    exact ⟨rfl, rfl⟩
/-- the program's way -/
def axP (M : List Int) : List Int := if M.length % 2 = 1 then axZ M 0 else axZ M 1
def axQ (M : List Int) : List Int := if M.length % 2 = 1 then axZ M 1 else axZ M 0
def difZ (M : List Int) : Int := if M.length % 2 = 1 then - polT (axQ M).length (axP M) (axQ M) else polT (axQ M).length (axP M) (axQ M)
def lasZ (M : List Int) : List Int := lasT (axQ M).length (axP M) (axQ M)
def onZ (w : List Int) : Int := ((w.length : Int) - ((mobZ w).length : Int)) + rrT (lasZ (mobZ w)).length (lasZ (mobZ w))
theorem ax_len (M : List Int) (tM : TrZ M) (nM : M ≠ []) : (axP M).length = M.length ∧ (axQ M).length < M.length := by
  have lM : 0 < M.length := List.length_pos_iff.mpr nM
  have c0 : ∀ s i, coZ (axZ M s) i = if i < M.length then (if i % 2 ≠ s then 0 else if i % 4 = s then coZ M i else - coZ M i) else 0 := fun s i => by
    unfold axZ; rw [coZ_trim, coZ_range]
  have top := tM.ld nM
  unfold ldZ at top
  have hp : ∀ s, s < 2 → (M.length - 1) % 2 = s → (axZ M s).length = M.length := fun s hs h => by
    have le : (axZ M s).length ≤ M.length := by unfold axZ; have := trimZ_le ((List.range M.length).map fun k => if k % 2 ≠ s then 0 else if k % 4 = s then coZ M k else - coZ M k); simpa using this
    apply Classical.byContradiction
    intro w
    have := coZ_out (f := axZ M s) (k := M.length - 1) (by omega)
    rw [c0, if_pos (by omega), if_neg (by omega)] at this
    split at this
    · exact top this
    · exact top (by omega)
  have hq : ∀ s, s < 2 → (M.length - 1) % 2 ≠ s → (axZ M s).length < M.length := fun s hs h => by
    have := (axZ_tr M s).len_le (m := M.length - 1) (fun k hk => by
      rw [c0]
      by_cases c : k < M.length
      · rw [if_pos c, if_pos (by rw [show k = M.length - 1 by omega]; exact h)]
      · rw [if_neg c])
    omega
  unfold axP axQ
  by_cases c : M.length % 2 = 1
  · rw [if_pos c, if_pos c]; exact ⟨hp 0 (by omega) (by omega), hq 1 (by omega) (by omega)⟩
  · rw [if_neg c, if_neg c]; exact ⟨hp 1 (by omega) (by omega), hq 0 (by omega) (by omega)⟩
/-- **the counts by the circle** -/
theorem circ_top {f : Poly} {w : List Int} {κ : Rat} (tf : Tr f) (nf : f ≠ []) (tw : TrZ w) (κ0 : κ ≠ 0) (hw : ∀ i, co f i = κ * cz w i) (fuel : Nat) (hfu : f.length ≤ fuel) :
    w.length = f.length ∧ onZ w = ((f.length : Int) - 1) - ((sidesFrom fuel f).1 : Int) - ((sidesFrom fuel f).2 : Int) ∧ ((f.length : Int) - 1) - onZ w + difZ (mobZ w) = 2 * ((sidesFrom fuel f).1 : Int) := by
  have lf : 0 < f.length := List.length_pos_iff.mpr nf
  have nw : w ≠ [] := fun z => by
    have := tf.last nf
    rw [hw, z, cz_out (w := []) (by simp)] at this
    exact this (by grind)
  have lw : 0 < w.length := List.length_pos_iff.mpr nw
  have wl : w.length = f.length := by
    have a1 : w.length ≤ f.length := tw.len_le fun k hk => by
      have := hw k
      rw [co_out hk] at this
      rcases Rat.mul_eq_zero.mp this.symm with z | z
      · exact absurd z κ0
      · exact castQ_zero.mp z
    have a2 : f.length ≤ w.length := tf.len_le' fun k hk => by rw [hw, cz_out hk]; grind
    omega
  refine ⟨wl, ?_⟩
  obtain ⟨fu, rfl⟩ : ∃ fu, fuel = fu + 1 := ⟨fuel - 1, by omega⟩
  have tM : TrZ (mobZ w) := mobZ_tr
  have nM := mobZ_ne tw nw
  have lM : 0 < (mobZ w).length := List.length_pos_iff.mpr nM
  have Ml := mobZ_len w
  obtain ⟨pl, ql⟩ := ax_len _ tM nM
  have Fc : ∀ i, (mobF (f.length - 1) (co f)).c i = κ * cz (mobZ w) i := fun i => by
    refine (mobF_uniq (P := fun i => κ * cz (mobZ w) i) (fun i hi => by rw [cz_out (by omega)]; grind) (fun s => ?_) i).symm
    have a := mobF_val (w.length - 1) (cz w) (pt_ne1 s)
    have b : ev (f.length - 1 + 1) (fun i => κ * cz (mobZ w) i) ((s + 2 : Nat) : Rat) = κ * ev (w.length - 1 + 1) (mobF (w.length - 1) (cz w)).c ((s + 2 : Nat) : Rat) := by
      rw [ev_mulc, wl]
      congr 1
      exact ev_congr (fun i _ => by rw [mobZ_F nw, wl]) _
    have c : ev (f.length - 1 + 1) (co f) ((1 + ((s + 2 : Nat) : Rat)) / (1 - ((s + 2 : Nat) : Rat))) = κ * ev (w.length - 1 + 1) (cz w) ((1 + ((s + 2 : Nat) : Rat)) / (1 - ((s + 2 : Nat) : Rat))) := by
      rw [← ev_mulc, wl]
      exact ev_congr (fun i _ => hw i) _
    rw [b, a, c, wl]; grind
  have eA : axA (mobF (f.length - 1) (co f)).c = fun i => κ * cz (axZ (mobZ w) 0) i := by
    funext i
    rw [axZ_A]
    unfold axA
    by_cases h : i % 2 = 0
    · rw [if_pos h, if_pos h, Fc]; grind
    · rw [if_neg h, if_neg h]; grind
  have eB : axB (mobF (f.length - 1) (co f)).c = fun i => κ * cz (axZ (mobZ w) 1) i := by
    funext i
    rw [axZ_B]
    unfold axB
    by_cases h : i % 2 = 1
    · rw [if_pos h, if_pos h, Fc]; grind
    · rw [if_neg h, if_neg h]; grind
  have sqp : (0 : Rat) < κ * κ := by
    apply Classical.byContradiction
    intro w
    rcases Rat.le_total (a := 0) (b := κ) with p | p
    · have : 0 ≤ κ * κ := Rat.mul_nonneg p p
      have : κ * κ = 0 := by grind
      exact mul_ne κ0 κ0 this
    · have : 0 ≤ (-κ) * (-κ) := Rat.mul_nonneg (by grind) (by grind)
      have : κ * κ = 0 := by grind
      exact mul_ne κ0 κ0 this
  have tP : TrZ (axP (mobZ w)) := by unfold axP; split <;> exact axZ_tr _ _
  have tQ : TrZ (axQ (mobZ w)) := by unfold axQ; split <;> exact axZ_tr _ _
  have nP : axP (mobZ w) ≠ [] := fun z => by rw [z] at pl; simp at pl; omega
  obtain ⟨fs, s1, s2, s3⟩ := sturm (axQ (mobZ w)).length (axP (mobZ w)) (axQ (mobZ w)) tP tQ nP (by omega) (Nat.le_refl _)
  rw [pl] at s1 s3
  -- squares of the axis' form
  obtain ⟨gs, g1, g2, g3⟩ : ∃ gs, Sqs (f.length - 1) (quadF (f.length - 1) (bz (axB (mobF (f.length - 1) (co f)).c) (axA (mobF (f.length - 1) (co f)).c))) gs ∧ (cntP gs : Int) - (cntN gs : Int) = difZ (mobZ w) ∧ cntP gs + cntN gs = cntP fs + cntN fs := by
    have zB : ∀ t, (mobZ w).length - 1 < t → cz (axZ (mobZ w) 1) t = 0 := fun t ht => by
      rw [axZ_B]; unfold axB; rw [cz_out (by omega)]; split <;> grind
    have zA : ∀ t, (mobZ w).length - 1 < t → cz (axZ (mobZ w) 0) t = 0 := fun t ht => by
      rw [axZ_A]; unfold axA; rw [cz_out (by omega)]; split <;> grind
    have less : ∀ x, quadF (f.length - 1) (bz (axB (mobF (f.length - 1) (co f)).c) (axA (mobF (f.length - 1) (co f)).c)) x = κ * κ * quadF ((mobZ w).length - 1) (bz (cz (axZ (mobZ w) 1)) (cz (axZ (mobZ w) 0))) x := fun x => by
      rw [eA, eB, quadF_congr (S' := fun i j => κ * κ * bz (cz (axZ (mobZ w) 1)) (cz (axZ (mobZ w) 0)) i j) (fun i _ j _ => bz_scal κ κ _ _ i j) (fun _ _ => rfl), quadF_mul, quadF_less (m := (mobZ w).length - 1) (by omega) (fun i j h => bz_hi zB zA h)]
    by_cases c : (mobZ w).length % 2 = 1
    · obtain ⟨ns, n1, n2, n3⟩ := Sqs.neg s1 (Q' := quadF ((mobZ w).length - 1) (bz (cz (axZ (mobZ w) 1)) (cz (axZ (mobZ w) 0)))) (fun x => by
        have ep : axP (mobZ w) = axZ (mobZ w) 0 := if_pos c
        have eq : axQ (mobZ w) = axZ (mobZ w) 1 := if_pos c
        rw [ep, eq]
        have e1 := quadF_mul ((mobZ w).length - 1) (-1) (bz (cz (axZ (mobZ w) 0)) (cz (axZ (mobZ w) 1))) x
        have e2 : quadF ((mobZ w).length - 1) (bz (cz (axZ (mobZ w) 1)) (cz (axZ (mobZ w) 0))) x = quadF ((mobZ w).length - 1) (fun i j => -1 * bz (cz (axZ (mobZ w) 0)) (cz (axZ (mobZ w) 1)) i j) x := quadF_congr (fun i _ j _ => by rw [bz_anti]; grind) (fun _ _ => rfl)
        rw [e2, e1]; grind)
      obtain ⟨gs, g1, g2, g3⟩ := Sqs.padc (N := f.length - 1) (by omega) n1 sqp less
      refine ⟨gs, g1, ?_, by rw [g2, g3, n2, n3]; omega⟩
      unfold difZ
      rw [if_pos c, g2, g3, n2, n3, ← s2]; omega
    · have s1' : Sqs ((mobZ w).length - 1) (quadF ((mobZ w).length - 1) (bz (cz (axZ (mobZ w) 1)) (cz (axZ (mobZ w) 0)))) fs := by
        have ep : axP (mobZ w) = axZ (mobZ w) 1 := if_neg c
        have eq : axQ (mobZ w) = axZ (mobZ w) 0 := if_neg c
        rw [ep, eq] at s1
        exact s1
      obtain ⟨gs, g1, g2, g3⟩ := Sqs.padc (N := f.length - 1) (by omega) s1' sqp less
      refine ⟨gs, g1, ?_, by rw [g2, g3]⟩
      unfold difZ
      rw [if_neg c, g2, g3, ← s2]
  obtain ⟨g, tg, ng, lg, hs, hid⟩ := side_core fu tf nf g1
  obtain ⟨tL, nL, dL1, dL2, _, pL⟩ := las_spec (axQ (mobZ w)).length (axP (mobZ w)) (axQ (mobZ w)) tP tQ nP (Nat.le_refl _)
  have hL : lasT (axQ (mobZ w)).length (axP (mobZ w)) (axQ (mobZ w)) = lasZ (mobZ w) := rfl
  rw [hL] at tL nL dL1 dL2 pL s3
  obtain ⟨r, hr, pL⟩ : ∃ r, r < 2 ∧ Par r (lasZ (mobZ w)) := by
    by_cases c : (mobZ w).length % 2 = 1
    · exact pL 0 1 (by omega) (by omega) (by rw [show axP (mobZ w) = axZ (mobZ w) 0 from if_pos c]; exact Par.ax _ 0 (by omega)) (by rw [show axQ (mobZ w) = axZ (mobZ w) 1 from if_pos c]; exact Par.ax _ 1 (by omega))
    · exact pL 1 0 (by omega) (by omega) (by rw [show axP (mobZ w) = axZ (mobZ w) 1 from if_neg c]; exact Par.ax _ 1 (by omega)) (by rw [show axQ (mobZ w) = axZ (mobZ w) 0 from if_neg c]; exact Par.ax _ 0 (by omega))
  obtain ⟨u, hu⟩ : ∃ u : Poly, zP (axZ (mobZ w) 0) = toP u * zP (lasZ (mobZ w)) := by
    by_cases c : (mobZ w).length % 2 = 1
    · rw [show axP (mobZ w) = axZ (mobZ w) 0 from if_pos c] at dL1; exact dL1
    · rw [show axQ (mobZ w) = axZ (mobZ w) 0 from if_neg c] at dL2; exact dL2
  obtain ⟨v, hv⟩ : ∃ v : Poly, zP (axZ (mobZ w) 1) = toP v * zP (lasZ (mobZ w)) := by
    by_cases c : (mobZ w).length % 2 = 1
    · rw [show axQ (mobZ w) = axZ (mobZ w) 1 from if_pos c] at dL2; exact dL2
    · rw [show axP (mobZ w) = axZ (mobZ w) 1 from if_neg c] at dL1; exact dL1
  have hon : onZ w = ((w.length : Int) - ((mobZ w).length : Int)) + rrT (lasZ (mobZ w)).length (lasZ (mobZ w)) := rfl
  generalize lasZ (mobZ w) = L at *
  have lL : 0 < L.length := List.length_pos_iff.mpr nL
  have scl : ∀ (c : Rat) (K : PS) (i : Nat), c * (K * zP L).c i = (PS.cst c * K * zP L).c i := fun c K i => by
    have : PS.cst c * K * zP L = PS.cst c * (K * zP L) := by grind
    rw [this, PS.cst_mul]
  obtain ⟨K, fK, hK⟩ := dvs_tau (F := (mobF (f.length - 1) (co f)).c) (G := zP L) hr (fun i hi => by rw [zP_c, pL i hi]; rfl) ((FS.cst κ).mul (FS.toP u)) ((FS.cst κ).mul (FS.toP v)) (fun i => by
    rw [eA, ← scl, ← hu, zP_c]; rfl) (fun i => by rw [eB, ← scl, ← hv, zP_c]; rfl)
  rw [← tauL_P] at hK
  obtain ⟨tΓ, nΓ⟩ := tauL_ok tL nL
  obtain ⟨σ, σσ, hσ⟩ := tauL_par hr pL
  obtain ⟨κ', κ'0, hgl, hκ'⟩ := hid ((mobZ w).length - 1) (tauL L) σ K (by omega) (fun i hi => by rw [Fc, cz_out (by omega)]; grind) tΓ nΓ σσ hσ fK hK (by rw [tauL_len]; omega)
  have real := side_real g.length fu L.length g L κ' r (Nat.le_refl _) tg ng tL nL hr pL κ'0 (fun i => by rw [hκ' i, tauL_co]) (by rw [derived_len tg ng]; omega) (Nat.le_refl _)
  have e1 : (sidesFrom (fu + 1) f).1 = cntP gs + (sidesFrom fu (derived g)).2 := by rw [hs]
  have e2 : (sidesFrom (fu + 1) f).2 = cntN gs + (sidesFrom fu (derived g)).2 := by rw [hs]
  rw [hon, e1, e2]
  constructor <;> omega
end EM
end

section
set_option Elab.async false
set_option linter.all false
namespace EM
open ShMat
def ab (x : Rat) : Rat := if 0 ≤ x then x else -x
theorem ab_nn (x : Rat) : 0 ≤ ab x := by unfold ab; split <;> grind
theorem ab_le (x : Rat) : x ≤ ab x ∧ -x ≤ ab x := by unfold ab; split <;> grind
theorem ab_of {x c : Rat} (h1 : x ≤ c) (h2 : -x ≤ c) : ab x ≤ c := by unfold ab; split <;> grind
theorem ab_add (x y : Rat) : ab (x + y) ≤ ab x + ab y := by
  have := ab_le x
  have := ab_le y
  exact ab_of (by grind) (by grind)
theorem ab_neg (x : Rat) : ab (-x) = ab x := by unfold ab; split <;> split <;> grind
theorem ab_mul (x y : Rat) : ab (x * y) = ab x * ab y := by
  by_cases hx : 0 ≤ x <;> by_cases hy : 0 ≤ y
  · have := Rat.mul_nonneg hx hy
    unfold ab; rw [if_pos hx, if_pos hy, if_pos this]
  · have := Rat.mul_nonneg hx (show 0 ≤ -y by grind)
    unfold ab; rw [if_pos hx, if_neg hy]
    split <;> grind
  · have := Rat.mul_nonneg (show 0 ≤ -x by grind) hy
    unfold ab; rw [if_neg hx, if_pos hy]
    split <;> grind
  · have := Rat.mul_nonneg (show 0 ≤ -x by grind) (show 0 ≤ -y by grind)
    unfold ab; rw [if_neg hx, if_neg hy]
    rw [if_pos (by grind)]; grind
theorem mul_le2 {x y X Y : Rat} (x0 : 0 ≤ x) (hx : x ≤ X) (y0 : 0 ≤ y) (hy : y ≤ Y) : x * y ≤ X * Y := by
  have a := Rat.mul_nonneg (show 0 ≤ X - x by grind) y0
  have b := Rat.mul_nonneg (show 0 ≤ X by grind) (show 0 ≤ Y - y by grind)
  grind
theorem arch (x : Rat) : ∃ K : Nat, 0 < K ∧ x < (K : Rat) := by
  refine ⟨x.ceil.toNat + 1, by omega, ?_⟩
  have h1 : x ≤ ((x.ceil : Int) : Rat) := Rat.le_ceil
  have h2 : ((x.ceil : Int) : Rat) ≤ ((x.ceil.toNat : Int) : Rat) := by exact_mod_cast Int.self_le_toNat _
  have h3 : ((x.ceil.toNat + 1 : Nat) : Rat) = ((x.ceil.toNat : Int) : Rat) + 1 := by
    rw [Rat.natCast_add, Rat.intCast_natCast]; rfl
  rw [h3]; grind
theorem div_pos2 {a b : Rat} (ha : 0 < a) (hb : 0 < b) : 0 < a / b := by
  have hb' : b ≠ 0 := fun z => by rw [z] at hb; grind
  apply Classical.byContradiction
  intro w
  have := Rat.mul_nonneg (Rat.le_of_lt hb) (show 0 ≤ -(a / b) by grind)
  have e : a / b * b = a := by grind
  grind
theorem nat_pos {K : Nat} (h : 0 < K) : (0 : Rat) < (K : Rat) := by exact_mod_cast h
theorem evL_nil (a : Rat) : evL [] a = 0 := rfl
theorem evL_cons (c : Rat) (t : Poly) (a : Rat) : evL (c :: t) a = c + a * evL t a := by
  show sm (t.length + 1) (fun i => co (c :: t) i * a ^ i) = _
  rw [sm_first']
  show c * a ^ 0 + sm t.length (fun i => co t i * a ^ (i + 1)) = _
  rw [pw_zero]
  unfold evL ev
  rw [← sm_mul]
  have : sm t.length (fun i => co t i * a ^ (i + 1)) = sm t.length (fun i => a * (co t i * a ^ i)) := sm_congr fun i _ => by rw [pw_succ]; grind
  rw [this]; grind
theorem bnd {R : Rat} (hR : 0 ≤ R) : ∀ f : Poly, ∃ B, 0 < B ∧ ∀ a, ab a ≤ R → ab (evL f a) ≤ B
  | [] => ⟨1, by decide, fun a _ => by rw [evL_nil]; unfold ab; rw [if_pos (by grind)]; grind⟩
  | c :: t => by
    obtain ⟨B, B0, hB⟩ := bnd hR t
    refine ⟨ab c + R * B + 1, by have := ab_nn c; have := Rat.mul_nonneg hR (Rat.le_of_lt B0); grind, fun a ha => ?_⟩
    rw [evL_cons]
    have h1 := ab_add c (a * evL t a)
    rw [ab_mul] at h1
    have h2 := mul_le2 (ab_nn a) ha (ab_nn _) (hB a ha)
    grind
theorem lip {R : Rat} (hR : 0 ≤ R) : ∀ f : Poly, ∃ B, 0 < B ∧ ∀ a b, ab a ≤ R → ab b ≤ R → ab (evL f a - evL f b) ≤ B * ab (a - b)
  | [] => ⟨1, by decide, fun a b _ _ => by rw [evL_nil, evL_nil]; have := ab_nn (a - b); have : ab ((0 : Rat) - 0) = 0 := by decide +kernel
                                           grind⟩
  | c :: t => by
    obtain ⟨B, B0, hB⟩ := bnd hR t
    obtain ⟨l, l0, hl⟩ := lip hR t
    refine ⟨R * l + B, by have := Rat.mul_nonneg hR (Rat.le_of_lt l0); grind, fun a b ha hb => ?_⟩
    rw [evL_cons, evL_cons, show c + a * evL t a - (c + b * evL t b) = a * (evL t a - evL t b) + (a - b) * evL t b by grind]
    have h1 := ab_add (a * (evL t a - evL t b)) ((a - b) * evL t b)
    rw [ab_mul, ab_mul] at h1
    have h2 := mul_le2 (ab_nn a) ha (ab_nn _) (hl a b ha hb)
    have h3 := mul_le2 (ab_nn (a - b)) (Rat.le_refl) (ab_nn _) (hB b hb)
    grind
def dL : Poly → Rat → Rat
  | [], _ => 0
  | _ :: t, a => evL t a + a * dL t a
theorem bndD {R : Rat} (hR : 0 ≤ R) : ∀ f : Poly, ∃ B, 0 < B ∧ ∀ a, ab a ≤ R → ab (dL f a) ≤ B
  | [] => ⟨1, by decide, fun a _ => by show ab 0 ≤ 1; unfold ab; rw [if_pos (by grind)]; grind⟩
  | c :: t => by
    obtain ⟨B, B0, hB⟩ := bnd hR t
    obtain ⟨D, D0, hD⟩ := bndD hR t
    refine ⟨B + R * D, by have := Rat.mul_nonneg hR (Rat.le_of_lt D0); grind, fun a ha => ?_⟩
    show ab (evL t a + a * dL t a) ≤ _
    have h1 := ab_add (evL t a) (a * dL t a)
    rw [ab_mul] at h1
    have h2 := mul_le2 (ab_nn a) ha (ab_nn _) (hD a ha)
    have := hB a ha
    grind
theorem tay {R : Rat} (hR : 0 ≤ R) : ∀ f : Poly, ∃ M, 0 < M ∧ ∀ a b, ab a ≤ R → ab b ≤ R → ab (evL f b - evL f a - (b - a) * dL f a) ≤ M * ((b - a) * (b - a))
  | [] => ⟨1, by decide, fun a b _ _ => by
      show ab (0 - 0 - (b - a) * 0) ≤ _
      rw [show (0 : Rat) - 0 - (b - a) * 0 = 0 by grind]
      have : ab (0 : Rat) = 0 := by decide +kernel
      have h := ab_nn ((b - a) * (b - a))
      rw [ab_mul] at h
      have : ab (b - a) * ab (b - a) = (b - a) * (b - a) := by unfold ab; split <;> grind
      grind⟩
  | c :: t => by
    obtain ⟨M, M0, hM⟩ := tay hR t
    obtain ⟨D, D0, hD⟩ := bndD hR t
    refine ⟨R * M + D, by have := Rat.mul_nonneg hR (Rat.le_of_lt M0); grind, fun a b ha hb => ?_⟩
    rw [evL_cons, evL_cons]
    show ab (c + b * evL t b - (c + a * evL t a) - (b - a) * (evL t a + a * dL t a)) ≤ _
    rw [show c + b * evL t b - (c + a * evL t a) - (b - a) * (evL t a + a * dL t a) = b * (evL t b - evL t a - (b - a) * dL t a) + (b - a) * (b - a) * dL t a by grind]
    have h1 := ab_add (b * (evL t b - evL t a - (b - a) * dL t a)) ((b - a) * (b - a) * dL t a)
    rw [ab_mul, ab_mul ((b - a) * (b - a))] at h1
    have sq : ab ((b - a) * (b - a)) = (b - a) * (b - a) := by rw [ab_mul]; unfold ab; split <;> grind
    have h2 := mul_le2 (ab_nn b) hb (ab_nn _) (hM a b ha hb)
    have h3 := mul_le2 (ab_nn ((b - a) * (b - a))) (Rat.le_refl) (ab_nn _) (hD a ha)
    rw [sq] at h1 h3
    grind
theorem dL_ev : ∀ (f : Poly) (a : Rat), dL f a = ev f.length (fun k => ((k + 1 : Nat) : Rat) * co f (k + 1)) a
  | [], a => rfl
  | c :: t, a => by
    show evL t a + a * dL t a = ev (t.length + 1) (fun k => ((k + 1 : Nat) : Rat) * co t k) a
    have e1 : ev (t.length + 1) (fun k => ((k + 1 : Nat) : Rat) * co t k) a = ev (t.length + 1) (fun k => (k : Rat) * co t k) a + ev (t.length + 1) (co t) a := by
      rw [← ev_add]
      refine ev_congr (fun k _ => ?_) a
      rw [Rat.natCast_add]
      have : ((1 : Nat) : Rat) = 1 := rfl
      rw [this]; grind
    rw [e1, evL_more (f := t) (by omega), dL_ev t a]
    have e2 : ev (t.length + 1) (fun k => (k : Rat) * co t k) a = a * ev t.length (fun k => ((k + 1 : Nat) : Rat) * co t (k + 1)) a := by
      unfold ev
      rw [sm_first', ← sm_mul]
      have z : ((0 : Nat) : Rat) = 0 := rfl
      dsimp only
      rw [z]
      have : sm t.length (fun i => ((i + 1 : Nat) : Rat) * co t (i + 1) * a ^ (i + 1)) = sm t.length (fun i => a * (((i + 1 : Nat) : Rat) * co t (i + 1) * a ^ i)) := sm_congr fun i _ => by rw [pw_succ]; grind
      rw [this]; grind
    rw [e2]; grind
theorem dL_der (p : List Int) (a : Rat) : evL (castP (derZ p)) a = dL (castP p) a := by
  rw [dL_ev, cast_len, ← evL_more (N := p.length) (by rw [cast_len, derZ_len]; omega)]
  exact ev_congr (fun k _ => by rw [co_cast, co_cast]; exact cz_der p k) a
/-- values at any places tell a polynomial -/
theorem ev_injP {N : Nat} {f : Nat → Rat} (pt : Nat → Rat) (hpt : ∀ s t, s ≠ t → pt s ≠ pt t) (h : ∀ s : Nat, ev N f (pt s) = 0) : ∀ i, i < N → f i = 0 := by
  intro i hi
  obtain ⟨z, ⟨s, hs, hz0⟩, hz⟩ := span_dep (n := N) (r := N + 1) (k := N) (by omega) (u := fun q t => if q = N then (if t = i then 1 else 0) else (pt q) ^ t) (v := fun l t => if t = l then 1 else 0) (C := fun q l => if q = N then (if l = i then 1 else 0) else (pt q) ^ l) (fun q hq t ht => by
    rw [sm_one ht (fun l _ ne => by show _ * (if t = l then (1 : Rat) else 0) = 0; rw [if_neg (show ¬ t = l from fun z => ne z.symm)]; grind)]
    show _ = _ * (if t = t then (1 : Rat) else 0)
    rw [if_pos rfl]; grind)
  have hz' : ∀ t, t < N → sm N (fun q => z q * (pt q) ^ t) + z N * (if t = i then 1 else 0) = 0 := fun t ht => by
    have := hz t ht
    have e1 : sm (N + 1) (fun q => z q * (if q = N then (if t = i then 1 else 0) else (pt q) ^ t)) = sm N (fun q => z q * (pt q) ^ t) + z N * (if t = i then 1 else 0) := by
      show sm N _ + z N * (if N = N then _ else _) = _
      rw [if_pos rfl]
      congr 1
      exact sm_congr fun q hq => by rw [if_neg (by omega)]
    rw [← e1]; exact this
  have zn : z N ≠ 0 := fun w => by
    have all := vander N pt z (fun a b _ _ hne zz => hpt a b hne zz) (fun t ht => by have := hz' t ht; rw [w] at this; grind)
    by_cases e : s = N
    · exact hz0 (by rw [e]; exact w)
    · exact hz0 (all s (by omega))
  have tot : sm N (fun t => f t * (sm N (fun q => z q * (pt q) ^ t) + z N * (if t = i then 1 else 0))) = 0 := sm_zero fun t ht => by rw [hz' t ht]; grind
  have split : sm N (fun t => f t * (sm N (fun q => z q * (pt q) ^ t) + z N * (if t = i then 1 else 0))) = sm N (fun q => z q * ev N f (pt q)) + z N * f i := by
    have a1 : sm N (fun t => f t * (sm N (fun q => z q * (pt q) ^ t) + z N * (if t = i then 1 else 0))) = sm N (fun t => sm N (fun q => z q * (f t * (pt q) ^ t))) + sm N (fun t => (if t = i then z N else 0) * f t) := by
      rw [← sm_add]
      refine sm_congr fun t _ => ?_
      have b : sm N (fun q => z q * (f t * (pt q) ^ t)) = f t * sm N (fun q => z q * (pt q) ^ t) := by rw [← sm_mul]; exact sm_congr fun q _ => by grind
      rw [b]
      by_cases c : t = i
      · rw [if_pos c, if_pos c]; grind
      · rw [if_neg c, if_neg c]; grind
    rw [a1, sm_sw, sm_ind hi]
    congr 1
    exact sm_congr fun q _ => by rw [sm_mul]; rfl
  rw [split, sm_zero (fun q _ => by rw [h q]; grind), Rat.zero_add] at tot
  rcases Rat.mul_eq_zero.mp tot with w | w
  · exact absurd w zn
  · exact w
theorem near_ne {P : Poly} (tP : Tr P) (nP : P ≠ []) (y : Rat) {e : Rat} (he : e ≠ 0) : ∃ s : Nat, evL P (y + e / ((s + 1 : Nat) : Rat)) ≠ 0 := by
  apply Classical.byContradiction
  intro hno
  have all : ∀ s : Nat, evL P (y + e / ((s + 1 : Nat) : Rat)) = 0 := fun s => Classical.byContradiction fun w => hno ⟨s, w⟩
  have lP : 0 < P.length := List.length_pos_iff.mpr nP
  refine tP.last nP (ev_injP (fun s => y + e / ((s + 1 : Nat) : Rat)) (fun s t hne z => hne ?_) all (P.length - 1) (by omega))
  have n1 : ((s + 1 : Nat) : Rat) ≠ 0 := fun w => by have := nat_pos (show 0 < s + 1 by omega); grind
  have n2 : ((t + 1 : Nat) : Rat) ≠ 0 := fun w => by have := nat_pos (show 0 < t + 1 by omega); grind
  have z : y + e / ((s + 1 : Nat) : Rat) = y + e / ((t + 1 : Nat) : Rat) := z
  have : e / ((s + 1 : Nat) : Rat) = e / ((t + 1 : Nat) : Rat) := by grind
  have a1 : e / ((s + 1 : Nat) : Rat) * ((s + 1 : Nat) : Rat) = e := by grind
  have a2 : e / ((t + 1 : Nat) : Rat) * ((t + 1 : Nat) : Rat) = e := by grind
  have a3 : e * (((t + 1 : Nat) : Rat) - ((s + 1 : Nat) : Rat)) = 0 := by grind
  rcases Rat.mul_eq_zero.mp a3 with w | w
  · exact absurd w he
  · have : ((t + 1 : Nat) : Rat) = ((s + 1 : Nat) : Rat) := by grind
    have : t + 1 = s + 1 := by exact_mod_cast this
    omega
theorem last_of {P : Nat → Prop} : ∀ K : Nat, P 0 → ¬ P K → ∃ j, j < K ∧ P j ∧ ∀ i, j < i → i ≤ K → ¬ P i
  | 0, h0, hk => absurd h0 hk
  | K + 1, h0, hk => by
    by_cases c : P K
    · exact ⟨K, by omega, c, fun i h1 h2 => by rw [show i = K + 1 by omega]; exact hk⟩
    · obtain ⟨j, j1, j2, j3⟩ := last_of K h0 c
      exact ⟨j, by omega, j2, fun i h1 h2 => by
        by_cases e : i = K + 1
        · rw [e]; exact hk
        · exact j3 i h1 (by omega)⟩
/-- one can't go down through 0 where the logarithmic derivative's numerator is above 0 -/
theorem nogo {p p' f g L : Rat → Rat} {x y M B l : Rat} (hxy : x < y) (M0 : 0 < M) (B0 : 0 < B) (l0 : 0 < l) (hp : ∀ t, x ≤ t → t ≤ y → p t = f t * L t ∧ p' t = g t * L t ∧ 0 < g t ∧ ab (p t) ≤ B ∧ ab (L t) ≤ B)
    (ht : ∀ s t, x ≤ s → s ≤ y → x ≤ t → t ≤ y → ab (p s - p t - (s - t) * p' t) ≤ M * ((s - t) * (s - t))) (hl : ∀ s t, x ≤ s → s ≤ y → x ≤ t → t ≤ y → ab (f s - f t) ≤ l * ab (s - t)) (fx : 0 ≤ f x) (fy : f y < 0) : p y = 0 := by
  -- bound for each K
  have key : ∀ K : Nat, 0 < K → p y * p y * (K : Rat) ≤ (y - x) * (y - x) * (l * l * (B * B) + 2 * B * M) := fun K hK => by
    have Kp := nat_pos hK
    have Kn : (K : Rat) ≠ 0 := fun w => by rw [w] at Kp; grind
    obtain ⟨h, hh⟩ : ∃ h, h = (y - x) / (K : Rat) := ⟨_, rfl⟩
    have hK' : h * (K : Rat) = y - x := by rw [hh]; grind
    have hp0 : 0 < h := by rw [hh]; exact div_pos2 (by grind) Kp
    have pts : ∀ i : Nat, i ≤ K → x ≤ x + (i : Rat) * h ∧ x + (i : Rat) * h ≤ y := fun i hi => by
      have i0 : (0 : Rat) ≤ (i : Rat) := by exact_mod_cast Nat.zero_le i
      have i1 : (i : Rat) ≤ (K : Rat) := by exact_mod_cast hi
      have a := Rat.mul_nonneg i0 (Rat.le_of_lt hp0)
      have b := Rat.mul_nonneg (show 0 ≤ (K : Rat) - (i : Rat) by grind) (Rat.le_of_lt hp0)
      constructor <;> grind
    have pK : x + (K : Rat) * h = y := by grind
    have p0 : x + ((0 : Nat) : Rat) * h = x := by
      have zz : ((0 : Nat) : Rat) = 0 := rfl
      rw [zz]; grind
    have succ : ∀ i : Nat, x + ((i + 1 : Nat) : Rat) * h = x + (i : Rat) * h + h := fun i => by
      have one : ((1 : Nat) : Rat) = 1 := rfl
      rw [Rat.natCast_add, one]; grind
    obtain ⟨j, jK, fj, fi⟩ := last_of (P := fun i => 0 ≤ f (x + (i : Rat) * h)) K (by rw [p0]; exact fx) (by rw [pK]; grind)
    have step : ∀ i, j < i → i < K → p (x + ((i + 1 : Nat) : Rat) * h) * p (x + ((i + 1 : Nat) : Rat) * h) ≤ p (x + (i : Rat) * h) * p (x + (i : Rat) * h) + 2 * B * M * (h * h) := fun i hi hiK => by
      obtain ⟨s1, s2⟩ := pts i (by omega)
      obtain ⟨t1, t2⟩ := pts (i + 1) (by omega)
      have fneg := fi (i + 1) (by omega) (by omega)
      have T := ht _ _ s1 s2 t1 t2
      obtain ⟨e1, e2, e3, e4, _⟩ := hp _ t1 t2
      rw [succ] at *
      generalize x + (i : Rat) * h = s at *
      rw [show s - (s + h) = -h by grind] at T
      have T1 := ab_le (p s - p (s + h) - -h * p' (s + h))
      have E1 := ab_le (p (s + h))
      generalize p (s + h) = a at *
      generalize p s = b at *
      generalize p' (s + h) = d at *
      -- a d is not above 0
      have ad : a * d ≤ 0 := by
        rw [e1, e2]
        have := Rat.mul_nonneg (show 0 ≤ - f (s + h) by grind) (Rat.le_of_lt e3)
        have sq : 0 ≤ L (s + h) * L (s + h) := by
          have := Rat.mul_nonneg (ab_nn (L (s + h))) (ab_nn (L (s + h)))
          rw [← ab_mul] at this
          have e : ab (L (s + h) * L (s + h)) = L (s + h) * L (s + h) := by rw [ab_mul]; unfold ab; split <;> grind
          rw [← e]; exact this
        have := Rat.mul_nonneg this sq
        grind
      have had : 0 ≤ h * (-(a * d)) := Rat.mul_nonneg (Rat.le_of_lt hp0) (by grind)
      -- the rest
      obtain ⟨r, hr⟩ : ∃ r, r = b - a - -h * d := ⟨_, rfl⟩
      rw [← hr] at T T1
      have ar : ab (a * r) ≤ B * (M * (h * h)) := by
        rw [ab_mul]
        exact mul_le2 (ab_nn a) e4 (ab_nn r) (by grind)
      have ar1 := ab_le (a * r)
      have sq : 0 ≤ (b - a) * (b - a) := by
        have := Rat.mul_nonneg (ab_nn (b - a)) (ab_nn (b - a))
        have e : ab (b - a) * ab (b - a) = (b - a) * (b - a) := by unfold ab; split <;> grind
        rw [← e]; exact this
      have bb : b * b = a * a + 2 * (a * r) + 2 * (h * (-(a * d))) + (b - a) * (b - a) := by rw [hr]; grind
      grind
    have sum : ∀ n : Nat, j + 1 + n ≤ K → p (x + ((j + 1 + n : Nat) : Rat) * h) * p (x + ((j + 1 + n : Nat) : Rat) * h) ≤ p (x + ((j + 1 : Nat) : Rat) * h) * p (x + ((j + 1 : Nat) : Rat) * h) + (n : Rat) * (2 * B * M * (h * h)) := fun n => by
      induction n with
      | zero => intro _; have : ((0 : Nat) : Rat) = 0 := rfl
                rw [this, Nat.add_zero]; grind
      | succ n ih =>
        intro hn
        have a := ih (by omega)
        have b := step (j + 1 + n) (by omega) (by omega)
        rw [show j + 1 + (n + 1) = j + 1 + n + 1 by omega]
        have c : ((n + 1 : Nat) : Rat) = (n : Rat) + 1 := by rw [Rat.natCast_add]; rfl
        rw [c]; grind
    have fin := sum (K - (j + 1)) (by omega)
    rw [show j + 1 + (K - (j + 1)) = K by omega, pK] at fin
    -- at j + 1 it's small
    have small : p (x + ((j + 1 : Nat) : Rat) * h) * p (x + ((j + 1 : Nat) : Rat) * h) ≤ l * h * (l * h) * (B * B) := by
      obtain ⟨s1, s2⟩ := pts j (by omega)
      obtain ⟨t1, t2⟩ := pts (j + 1) (by omega)
      have fneg := fi (j + 1) (by omega) (by omega)
      have Lp := hl _ _ s1 s2 t1 t2
      obtain ⟨e1, _, _, _, e5⟩ := hp _ t1 t2
      rw [succ] at *
      generalize x + (j : Rat) * h = s at *
      rw [show s - (s + h) = -h by grind, ab_neg] at Lp
      have hh' : ab h = h := by unfold ab; rw [if_pos (Rat.le_of_lt hp0)]
      rw [hh'] at Lp
      have := ab_le (f s - f (s + h))
      have fs : ab (f (s + h)) ≤ l * h := ab_of (by grind) (by grind)
      have q1 := mul_le2 (ab_nn _) fs (ab_nn _) fs
      have q2 := mul_le2 (ab_nn _) e5 (ab_nn _) e5
      have q3 := mul_le2 (Rat.mul_nonneg (ab_nn _) (ab_nn _)) q1 (Rat.mul_nonneg (ab_nn _) (ab_nn _)) q2
      have s1' : ab (f (s + h)) * ab (f (s + h)) = f (s + h) * f (s + h) := by unfold ab; split <;> grind
      have s2' : ab (L (s + h)) * ab (L (s + h)) = L (s + h) * L (s + h) := by unfold ab; split <;> grind
      rw [s1', s2'] at q3
      rw [e1]; grind
    have nK : (((K - (j + 1) : Nat)) : Rat) ≤ (K : Rat) := by exact_mod_cast Nat.sub_le _ _
    have BM : 0 ≤ 2 * B * M * (h * h) := Rat.mul_nonneg (Rat.mul_nonneg (by grind) (by grind)) (Rat.mul_nonneg (by grind) (by grind))
    have c1 := Rat.mul_nonneg (show 0 ≤ (K : Rat) - (((K - (j + 1) : Nat)) : Rat) by grind) BM
    -- total
    have tot : p y * p y ≤ l * h * (l * h) * (B * B) + (K : Rat) * (2 * B * M * (h * h)) := by grind
    have m1 := Rat.mul_nonneg (show 0 ≤ l * h * (l * h) * (B * B) + (K : Rat) * (2 * B * M * (h * h)) - p y * p y by grind) (Rat.le_of_lt Kp)
    have K1 : (1 : Rat) ≤ (K : Rat) := by exact_mod_cast hK
    -- h h K ≤ (y - x) (y - x)
    have hk2 : h * h * (K : Rat) ≤ (y - x) * (y - x) := by
      have e : (y - x) * (y - x) = h * h * (K : Rat) * (K : Rat) := by rw [← hK']; grind
      rw [e]
      have := Rat.mul_nonneg (Rat.mul_nonneg (Rat.mul_nonneg (Rat.le_of_lt hp0) (Rat.le_of_lt hp0)) (Rat.le_of_lt Kp)) (show 0 ≤ (K : Rat) - 1 by grind)
      grind
    have c2 := Rat.mul_nonneg (show 0 ≤ l * l * (B * B) from Rat.mul_nonneg (Rat.mul_nonneg (by grind) (by grind)) (Rat.mul_nonneg (by grind) (by grind))) (show 0 ≤ (y - x) * (y - x) - h * h * (K : Rat) by grind)
    have e2 : (K : Rat) * (2 * B * M * (h * h)) * (K : Rat) = 2 * B * M * ((y - x) * (y - x)) := by rw [← hK']; grind
    grind
  apply Classical.byContradiction
  intro hne
  have pp : 0 < p y * p y := by
    rcases Rat.le_total (a := 0) (b := p y) with w | w
    · exact Rat.mul_pos (by grind) (by grind)
    · have := Rat.mul_pos (show 0 < - p y by grind) (show 0 < - p y by grind)
      grind
  obtain ⟨K, K0, hK⟩ := arch ((y - x) * (y - x) * (l * l * (B * B) + 2 * B * M) / (p y * p y))
  have := key K K0
  have pn : p y * p y ≠ 0 := fun w => by rw [w] at pp; grind
  have a := Rat.mul_pos pp (show 0 < (K : Rat) - (y - x) * (y - x) * (l * l * (B * B) + 2 * B * M) / (p y * p y) by grind)
  have b : p y * p y * ((y - x) * (y - x) * (l * l * (B * B) + 2 * B * M) / (p y * p y)) = (y - x) * (y - x) * (l * l * (B * B) + 2 * B * M) := by grind
  grind
end EM
end

section
set_option Elab.async false
set_option linter.all false
namespace EM
open ShMat
def sb (x : Rat) : Bool := decide (0 ≤ x)
def st (f g : Rat → Rat) (x y : Rat) : Int := if sb (f x) = sb (f y) then 0 else if sb (f y) = sb (g y) then 1 else -1
def ix (f g : Rat → Rat) (a : Nat → Rat) : Nat → Int
  | 0 => 0
  | K + 1 => ix f g a K + st f g (a K) (a (K + 1))
def hh (u v : Rat) : Int := if sb u = sb v then 1 else 0
theorem st_rec {f g : Rat → Rat} {x y : Rat} (h : sb (f x) ≠ sb (f y) → sb (g x) = sb (g y)) : st f g x y + st g f x y = hh (f y) (g y) - hh (f x) (g x) := by
  unfold st hh
  generalize sb (f x) = a at *
  generalize sb (f y) = b at *
  generalize sb (g x) = c at *
  generalize sb (g y) = d at *
  revert h
  revert a b c d
  decide
theorem ix_rec {f g : Rat → Rat} {a : Nat → Rat} : ∀ K : Nat, (∀ j, j < K → sb (f (a j)) ≠ sb (f (a (j + 1))) → sb (g (a j)) = sb (g (a (j + 1)))) → ix f g a K + ix g f a K = hh (f (a K)) (g (a K)) - hh (f (a 0)) (g (a 0))
  | 0, _ => by show (0 : Int) + 0 = _; omega
  | K + 1, h => by
    have ih := ix_rec K (fun j hj => h j (by omega))
    have s := st_rec (h K (by omega))
    show (ix f g a K + st f g (a K) (a (K + 1))) + (ix g f a K + st g f (a K) (a (K + 1))) = _
    omega
theorem ix_div {f g n : Rat → Rat} {a : Nat → Rat} : ∀ K : Nat, (∀ j, j < K → sb (g (a j)) ≠ sb (g (a (j + 1))) → sb (f (a (j + 1))) ≠ sb (n (a (j + 1)))) → ix g f a K = - ix g n a K
  | 0, _ => rfl
  | K + 1, h => by
    have ih := ix_div (f := f) (n := n) K (fun j hj => h j (by omega))
    have s := h K (by omega)
    show ix g f a K + st g f (a K) (a (K + 1)) = - (ix g n a K + st g n (a K) (a (K + 1)))
    have e : st g f (a K) (a (K + 1)) = - st g n (a K) (a (K + 1)) := by
      unfold st
      generalize sb (g (a K)) = w at *
      generalize sb (g (a (K + 1))) = b at *
      generalize sb (f (a (K + 1))) = c at *
      generalize sb (n (a (K + 1))) = d at *
      revert s
      revert w b c d
      decide
    omega
theorem sb_pos {x : Rat} (h : 0 < x) : sb x = true := decide_eq_true (Rat.le_of_lt h)
theorem sb_neg {x : Rat} (h : x < 0) : sb x = false := decide_eq_false (by grind)
theorem sb_t {x : Rat} (h : sb x = true) : 0 ≤ x := of_decide_eq_true h
theorem sb_f {x : Rat} (h : sb x = false) : x < 0 := by have := of_decide_eq_false h; grind
theorem chg {u v : Rat} (h : sb u ≠ sb v) : ab v ≤ ab (u - v) := by
  have := ab_le (u - v)
  cases hu : sb u <;> cases hv : sb v
  · rw [hu, hv] at h; exact absurd rfl h
  · have := sb_f hu; have := sb_t hv; exact ab_of (by grind) (by grind)
  · have := sb_t hu; have := sb_f hv; exact ab_of (by grind) (by grind)
  · rw [hu, hv] at h; exact absurd rfl h
theorem keep {u v c : Rat} (h : c ≤ ab v) (hd : ab (u - v) < c) : sb u = sb v := by
  have d := ab_le (u - v)
  unfold ab at h
  split at h
  · rw [sb_pos (by grind), sb_pos (by have := ab_nn (u - v); grind)]
  · rw [sb_neg (by grind), sb_neg (by have := ab_nn (u - v); grind)]
theorem step_one {f g : Rat → Rat} {c df dg x y : Rat} (hf : ab (f x - f y) ≤ df) (hg : ab (g x - g y) ≤ dg) (h1 : df < c) (h2 : dg < c) (hs : c ≤ ab (f y) ∨ c ≤ ab (g y)) (hc : sb (f x) ≠ sb (f y)) : sb (g x) = sb (g y) ∧ c ≤ ab (g y) ∧ ab (f y) ≤ df := by
  have a := chg hc
  have b : c ≤ ab (g y) := by
    rcases hs with w | w
    · exact absurd w (by grind)
    · exact w
  exact ⟨keep b (by grind), b, by grind⟩
structure Grid (R d : Rat) (a : Nat → Rat) (K : Nat) : Prop where
  lo : a 0 = -R
  hi : a K = R
  st : ∀ j, j < K → a j ≤ a (j + 1) ∧ a (j + 1) - a j ≤ d
theorem Grid.mono {R d d' : Rat} {a : Nat → Rat} {K : Nat} (h : Grid R d a K) (hd : d ≤ d') : Grid R d' a K := ⟨h.lo, h.hi, fun j hj => ⟨(h.st j hj).1, by have := (h.st j hj).2; grind⟩⟩
theorem Grid.within {R d : Rat} {a : Nat → Rat} {K : Nat} (h : Grid R d a K) : ∀ j, j ≤ K → ab (a j) ≤ R := fun j hj => by
  have up : ∀ n, j + n ≤ K → a j ≤ a (j + n) := fun n => by
    induction n with
    | zero => intro _; exact Rat.le_refl
    | succ n ih => intro hn; have := ih (by omega); have := (h.st (j + n) (by omega)).1; rw [← Nat.add_assoc]; grind
  have dn : ∀ n, n ≤ K → a 0 ≤ a n := fun n => by
    induction n with
    | zero => intro _; exact Rat.le_refl
    | succ n ih => intro hn; have := ih (by omega); have := (h.st n (by omega)).1; grind
  have a1 := up (K - j) (by omega)
  rw [show j + (K - j) = K by omega, h.hi] at a1
  have a2 := dn j hj
  rw [h.lo] at a2
  exact ab_of a1 (by grind)
theorem sep {f g u v : Poly} (h : ∀ a, evL u a * evL f a + evL v a * evL g a = 1) {R : Rat} (hR : 0 ≤ R) : ∃ c, 0 < c ∧ ∀ a, ab a ≤ R → c ≤ ab (evL f a) ∨ c ≤ ab (evL g a) := by
  obtain ⟨U, U0, hU⟩ := bnd hR u
  obtain ⟨V, V0, hV⟩ := bnd hR v
  have W0 : 0 < 2 * (U + V) := by grind
  refine ⟨1 / (2 * (U + V)), div_pos2 (by decide) W0, fun a ha => ?_⟩
  apply Classical.byContradiction
  intro hno
  have h1 : ab (evL f a) < 1 / (2 * (U + V)) := by grind
  have h2 : ab (evL g a) < 1 / (2 * (U + V)) := by grind
  have e := h a
  have t := ab_add (evL u a * evL f a) (evL v a * evL g a)
  rw [e, ab_mul, ab_mul] at t
  have o : ab (1 : Rat) = 1 := by decide +kernel
  rw [o] at t
  have a1 := mul_le2 (ab_nn _) (hU a ha) (ab_nn (evL f a)) (Rat.le_refl)
  have a2 := mul_le2 (ab_nn _) (hV a ha) (ab_nn (evL g a)) (Rat.le_refl)
  have b1 := Rat.mul_pos U0 (show 0 < 1 / (2 * (U + V)) - ab (evL f a) by grind)
  have b2 := Rat.mul_pos V0 (show 0 < 1 / (2 * (U + V)) - ab (evL g a) by grind)
  have c1 : (U + V) * (1 / (2 * (U + V))) = 1 / 2 := by grind
  have : (1 : Rat) / 2 < 1 := by decide +kernel
  grind
theorem evL_zero (f : Poly) : evL f 0 = co f 0 := by
  cases f with
  | nil => rfl
  | cons c t => rw [evL_cons]; show c + 0 * _ = c; grind
theorem far {P : Poly} (tP : Tr P) (nP : P ≠ []) : ∃ R0, 0 < R0 ∧ ∀ a, R0 ≤ ab a → 0 < co P (P.length - 1) * a ^ (P.length - 1) * evL P a := by
  have lP : 0 < P.length := List.length_pos_iff.mpr nP
  have nr : P.reverse ≠ [] := fun z => nP (List.reverse_eq_nil_iff.mp z)
  obtain ⟨l, l0, hl⟩ := lip (R := 1) (by decide) P.reverse
  have q0 := tP.last nP
  have r0 : evL P.reverse 0 = co P (P.length - 1) := by
    rw [evL_zero, co_rev nP]
    unfold rvf
    rw [if_pos (by omega), Nat.sub_zero]
  generalize co P (P.length - 1) = q at *
  have qp : 0 < ab q := by have := ab_nn q; unfold ab at *; split <;> grind
  have R1 : 0 < l / ab q := div_pos2 l0 qp
  refine ⟨l / ab q + 1, by grind, fun a ha => ?_⟩
  have an : a ≠ 0 := fun z => by
    rw [z] at ha
    have : ab (0 : Rat) = 0 := by decide +kernel
    grind
  have ap : 0 < ab a := by grind
  have ev := evL_rev nr (a := a) an
  rw [List.reverse_reverse, List.length_reverse] at ev
  have i1 : ab (1 / a) * ab a = 1 := by rw [← ab_mul, show 1 / a * a = 1 by grind]; decide +kernel
  have i0 := ab_nn (1 / a)
  have i2 : ab (1 / a) ≤ 1 := by
    apply Classical.byContradiction
    intro w
    have := Rat.mul_pos (show 0 < ab (1 / a) - 1 by grind) ap
    grind
  have L := hl (1 / a) 0 i2 (by decide +kernel)
  rw [r0, show 1 / a - 0 = 1 / a by grind] at L
  -- l (1 / a) is below q
  have lq : l / ab q * ab q = l := by grind
  have sm1 : l * ab (1 / a) < ab q := by
    have h1 := Rat.mul_nonneg (show 0 ≤ ab a - (l / ab q + 1) by grind) (Rat.mul_nonneg i0 (Rat.le_of_lt qp) : 0 ≤ ab (1 / a) * ab q)
    have h2 : ab a * (ab (1 / a) * ab q) = ab q := by
      have : ab a * (ab (1 / a) * ab q) = ab (1 / a) * ab a * ab q := by grind
      rw [this, i1]; grind
    have h3 : (l / ab q + 1) * (ab (1 / a) * ab q) = l * ab (1 / a) + ab (1 / a) * ab q := by
      have : (l / ab q + 1) * (ab (1 / a) * ab q) = l / ab q * ab q * ab (1 / a) + ab (1 / a) * ab q := by grind
      rw [this, lq]
    have i3 : 0 < ab (1 / a) := by
      apply Classical.byContradiction
      intro w
      have : ab (1 / a) = 0 := by grind
      rw [this] at i1; grind
    have h4 := Rat.mul_pos i3 qp
    grind
  have d := ab_le (evL P.reverse (1 / a) - q)
  have sgn : 0 < q * evL P.reverse (1 / a) := by
    by_cases c : 0 ≤ q
    · have e : ab q = q := if_pos c
      exact Rat.mul_pos (by grind) (by grind)
    · have e : ab q = -q := if_neg c
      have := Rat.mul_pos (show 0 < -q by grind) (show 0 < - evL P.reverse (1 / a) by grind)
      grind
  rw [ev]
  have pn := pw_ne an (P.length - 1)
  generalize a ^ (P.length - 1) = w at *
  have sq : 0 < w * w := by
    rcases Rat.le_total (a := 0) (b := w) with z | z
    · exact Rat.mul_pos (by grind) (by grind)
    · have := Rat.mul_pos (show 0 < -w by grind) (show 0 < -w by grind)
      grind
  have := Rat.mul_pos sgn sq
  grind
theorem hh_of {u v X : Rat} (h : 0 < X * (u * v)) : hh u v = if 0 < X then 1 else 0 := by
  have un : u ≠ 0 := fun z => by rw [z] at h; grind
  have vn : v ≠ 0 := fun z => by rw [z] at h; grind
  unfold hh
  by_cases hu : 0 < u <;> by_cases hv : 0 < v
  · have uv := Rat.mul_pos hu hv
    rw [sb_pos hu, sb_pos hv, if_pos rfl, if_pos]
    apply Classical.byContradiction; intro w
    have := Rat.mul_nonneg (show 0 ≤ -X by grind) (Rat.le_of_lt uv); grind
  · have uv := Rat.mul_pos hu (show 0 < -v by grind)
    rw [sb_pos hu, sb_neg (by grind), if_neg (by decide), if_neg]
    intro w
    have := Rat.mul_pos w uv; grind
  · have uv := Rat.mul_pos (show 0 < -u by grind) hv
    rw [sb_pos hv, sb_neg (by grind), if_neg (by decide), if_neg]
    intro w
    have := Rat.mul_pos w uv; grind
  · have uv := Rat.mul_pos (show 0 < -u by grind) (show 0 < -v by grind)
    rw [sb_neg (by grind), sb_neg (by grind), if_pos rfl, if_pos]
    apply Classical.byContradiction; intro w
    have := Rat.mul_nonneg (show 0 ≤ -X by grind) (Rat.le_of_lt uv); grind
theorem neg_pw (R : Rat) : ∀ k : Nat, (-R) ^ k = (if k % 2 = 0 then 1 else -1) * R ^ k
  | 0 => by rw [pw_zero, pw_zero, if_pos rfl]; grind
  | k + 1 => by
    rw [pw_succ, pw_succ, neg_pw R k]
    by_cases h : k % 2 = 0
    · rw [if_pos h, if_neg (by omega)]; grind
    · rw [if_neg h, if_pos (by omega)]; grind
theorem pw_pos {R : Rat} (h : 0 < R) : ∀ k : Nat, 0 < R ^ k
  | 0 => by rw [pw_zero]; decide
  | k + 1 => by rw [pw_succ]; exact Rat.mul_pos (pw_pos h k) h
/-- the two ends -/
theorem ends {p q : List Int} (tp : TrZ p) (np : p ≠ []) (tq : TrZ q) (nq : q ≠ []) (hl : q.length < p.length) {f g L : Rat → Rat} (hp : ∀ a, evZ p a = f a * L a) (hq : ∀ a, evZ q a = g a * L a) : ∃ R0, 0 < R0 ∧ ∀ R, R0 ≤ R → hh (f R) (g R) - hh (f (-R)) (g (-R)) = sgn1 p q := by
  obtain ⟨R1, a1, b1⟩ := far tp.tr (fun z => np (cast_nil.mp z))
  obtain ⟨R2, a2, b2⟩ := far tq.tr (fun z => nq (cast_nil.mp z))
  refine ⟨R1 + R2, by grind, fun R hR => ?_⟩
  rw [cast_len] at b1 b2
  rw [co_cast] at b1 b2
  have lp0 := tp.ld np
  have lq0 := tq.ld nq
  have e1 : coZ p (p.length - 1) = ldZ p := rfl
  have e2 : coZ q (q.length - 1) = ldZ q := rfl
  rw [e1] at b1
  rw [e2] at b2
  have key : ∀ a, R1 + R2 ≤ ab a → hh (f a) (g a) = if 0 < ((ldZ p : Int) : Rat) * ((ldZ q : Int) : Rat) * (a ^ (p.length - 1) * a ^ (q.length - 1)) then 1 else 0 := fun a ha => by
    have c1 := b1 a (by grind)
    have c2 := b2 a (by grind)
    have c3 := Rat.mul_pos c1 c2
    have c1' : evL (castP p) a = f a * L a := hp a
    have c2' : evL (castP q) a = g a * L a := hq a
    rw [c1', c2'] at c3
    refine hh_of ?_
    have Ln : L a ≠ 0 := fun z => by rw [z] at c3; grind
    have sq : 0 < L a * L a := by
      rcases Rat.le_total (a := 0) (b := L a) with z | z
      · exact Rat.mul_pos (by grind) (by grind)
      · have := Rat.mul_pos (show 0 < - L a by grind) (show 0 < - L a by grind)
        grind
    apply Classical.byContradiction
    intro w
    have := Rat.mul_nonneg (show 0 ≤ -(((ldZ p : Int) : Rat) * ((ldZ q : Int) : Rat) * (a ^ (p.length - 1) * a ^ (q.length - 1)) * (f a * g a)) by grind) (Rat.le_of_lt sq)
    grind
  have Rp : 0 < R := by grind
  have abR : ab R = R := by unfold ab; rw [if_pos (Rat.le_of_lt Rp)]
  rw [key R (by rw [abR]; exact hR), key (-R) (by rw [ab_neg, abR]; exact hR), neg_pw, neg_pw]
  have P1 := pw_pos Rp (p.length - 1)
  have P2 := pw_pos Rp (q.length - 1)
  have PP := Rat.mul_pos P1 P2
  generalize R ^ (p.length - 1) = w1 at *
  generalize R ^ (q.length - 1) = w2 at *
  have hs : ∀ X : Rat, (0 < X * (w1 * w2)) ↔ 0 < X := fun X => ⟨fun h => by
    apply Classical.byContradiction; intro w
    have := Rat.mul_nonneg (show 0 ≤ -X by grind) (Rat.le_of_lt PP); grind, fun h => Rat.mul_pos h PP⟩
  have lq : 0 < q.length := List.length_pos_iff.mpr nq
  -- the sign of the two leading ones
  have sg : (0 < ((ldZ p : Int) : Rat) * ((ldZ q : Int) : Rat)) ↔ decide (0 < ldZ p) = decide (0 < ldZ q) := by
    have c : ((ldZ p : Int) : Rat) * ((ldZ q : Int) : Rat) = ((ldZ p * ldZ q : Int) : Rat) := by rw [Rat.intCast_mul]
    have d : (0 < ((ldZ p * ldZ q : Int) : Rat)) ↔ 0 < ldZ p * ldZ q := by exact_mod_cast Iff.rfl
    rw [c, d]
    by_cases h1 : 0 < ldZ p <;> by_cases h2 : 0 < ldZ q
    · rw [decide_eq_true h1, decide_eq_true h2]; exact ⟨fun _ => rfl, fun _ => Int.mul_pos h1 h2⟩
    · rw [decide_eq_true h1, decide_eq_false h2]
      exact ⟨fun h => by have := Int.mul_neg_of_pos_of_neg h1 (show ldZ q < 0 by omega); omega, fun h => by simp at h⟩
    · rw [decide_eq_false h1, decide_eq_true h2]
      exact ⟨fun h => by have := Int.mul_neg_of_neg_of_pos (show ldZ p < 0 by omega) h2; omega, fun h => by simp at h⟩
    · rw [decide_eq_false h1, decide_eq_false h2]; exact ⟨fun _ => rfl, fun _ => Int.mul_pos_of_neg_of_neg (by omega) (by omega)⟩
  have nz : ((ldZ p : Int) : Rat) * ((ldZ q : Int) : Rat) ≠ 0 := mul_ne (fun z => lp0 (castQ_zero.mp z)) (fun z => lq0 (castQ_zero.mp z))
  unfold sgn1
  generalize ((ldZ p : Int) : Rat) * ((ldZ q : Int) : Rat) = X at *
  have m2 : X * ((if (p.length - 1) % 2 = 0 then 1 else -1) * w1 * ((if (q.length - 1) % 2 = 0 then 1 else -1) * w2)) = (if (p.length - q.length) % 2 = 0 then X else -X) * (w1 * w2) := by
    by_cases h1 : (p.length - 1) % 2 = 0 <;> by_cases h2 : (q.length - 1) % 2 = 0
    · rw [if_pos h1, if_pos h2, if_pos (by omega)]; grind
    · rw [if_pos h1, if_neg h2, if_neg (by omega)]; grind
    · rw [if_neg h1, if_pos h2, if_neg (by omega)]; grind
    · rw [if_neg h1, if_neg h2, if_pos (by omega)]; grind
  rw [m2]
  by_cases ev : (p.length - q.length) % 2 = 0
  · rw [if_pos ev, if_pos ev]; omega
  · rw [if_neg ev, if_neg ev]
    by_cases c : 0 < X
    · rw [if_pos ((hs X).mpr c), if_pos (sg.mp c), if_neg (fun w => by have := (hs (-X)).mp w; grind)]; rfl
    · rw [if_neg (fun w => c ((hs X).mp w)), if_neg (fun w => c (sg.mpr w)), if_pos ((hs (-X)).mpr (by grind))]; rfl
end EM
end

section
set_option Elab.async false
set_option linter.all false
namespace EM
open ShMat
/-- s p = Q q - c (the next one), as functions -/
theorem div_vals {p q : List Int} (hp : TrZ p) (hq : TrZ q) (nq : q ≠ []) : ∃ (s c : Rat), 0 < s ∧ 0 < c ∧ ∀ a, s * evZ p a = evZ (divZ p q).q a * evZ q a - c * evZ (nxt p q) a := by
  obtain ⟨s0, d2, d3, d4, d5⟩ := divZ_spec hp hq nq
  obtain ⟨c, c0, hc⟩ : ∃ c : Rat, 0 < c ∧ ∀ a, evZ (divZ p q).r a = - (c * evZ (nxt p q) a) := by
    by_cases hr : (divZ p q).r = []
    · have e : nxt p q = [] := by unfold nxt; rw [hr]; rfl
      exact ⟨1, by decide, fun a => by rw [e, hr]; show (0 : Rat) = -(1 * 0); grind⟩
    · have d0 := rdv_pos d2 hr
      refine ⟨((rdv (divZ p q).r 0 : Int) : Rat), by exact_mod_cast d0, fun a => ?_⟩
      unfold nxt
      rw [evZ_grow]
      have : evZ (divZ p q).r a = ((rdv (divZ p q).r 0 : Int) : Rat) * evZ (contZ (divZ p q).r) a := evL_smul (zP_cont _) a
      rw [this]
      show _ = -(_ * (((-1 : Int) : Rat) * _))
      have e1 : ((-1 : Int) : Rat) = -1 := rfl
      rw [e1]; grind
  refine ⟨((divZ p q).s : Rat), c, by exact_mod_cast s0, c0, fun a => ?_⟩
  have h1 : evL (smulP ((divZ p q).s : Rat) (castP p)) a = ((divZ p q).s : Rat) * evZ p a := evL_smul (toP_smul _ _) a
  have h2 : evL (smulP ((divZ p q).s : Rat) (castP p)) a = evL (ptimes (castP (divZ p q).q) (castP q)) a + evZ (divZ p q).r a := evL_add (by
    rw [toP_smul, toP_ptimes]
    exact d5) a
  have h3 : evL (ptimes (castP (divZ p q).q) (castP q)) a = evZ (divZ p q).q a * evZ q a := evL_mul (toP_ptimes _ _) a
  rw [← h1, h2, h3, hc]; grind
theorem small2 {d e : Rat} (hd : 0 < d) (he : 0 < e) : ∃ m, 0 < m ∧ m ≤ d ∧ m ≤ e := by
  by_cases h : d ≤ e
  · exact ⟨d, hd, Rat.le_refl, h⟩
  · exact ⟨e, he, by grind, Rat.le_refl⟩
theorem dchoose {lf lg z κ d' : Rat} (h1 : 0 < lf) (h2 : 0 < lg) (h3 : 0 < z) (hk : 0 < κ) (hd : 0 < d') : ∃ d, 0 < d ∧ d ≤ d' ∧ lf * d < κ ∧ lg * d < κ ∧ d * z < κ := by
  have T0 : 0 < 2 * (lf + lg + z) := by grind
  obtain ⟨d, d0, dd', dk⟩ := small2 hd (div_pos2 hk T0)
  have dT : d * (2 * (lf + lg + z)) ≤ κ := by
    have e : κ / (2 * (lf + lg + z)) * (2 * (lf + lg + z)) = κ := by grind
    generalize κ / (2 * (lf + lg + z)) = w at *
    have := Rat.mul_nonneg (show 0 ≤ w - d by grind) (Rat.le_of_lt T0)
    grind
  have m1 := Rat.mul_pos d0 h1
  have m2 := Rat.mul_pos d0 h2
  have m3 := Rat.mul_pos d0 h3
  exact ⟨d, d0, dd', by grind, by grind, by grind⟩
theorem opp {s c κ F G H W B lg d z : Rat} (s0 : 0 < s) (c0 : 0 < c) (hz : B * lg = s * z) (dz : d * z < κ) (eq : s * F = W * G - c * H) (qb : ab W ≤ B) (z3 : ab G ≤ lg * d) (z2 : κ ≤ ab F) (κ0 : 0 < κ) : sb F ≠ sb H := by
  have p1 := mul_le2 (ab_nn W) qb (ab_nn G) z3
  rw [← ab_mul] at p1
  have p2 := ab_le (W * G)
  have p3 : B * (lg * d) < s * κ := by
    have e : B * (lg * d) = s * (d * z) := by
      have : B * (lg * d) = B * lg * d := by grind
      rw [this, hz]; grind
    rw [e]
    generalize d * z = y at *
    have := Rat.mul_pos s0 (show 0 < κ - y by grind)
    grind
  generalize W * G = X at *
  generalize B * (lg * d) = Y at *
  by_cases hF : 0 ≤ F
  · have eF : ab F = F := if_pos hF
    rw [eF] at z2
    have := Rat.mul_nonneg (Rat.le_of_lt s0) (show 0 ≤ F - κ by grind)
    have cH : c * H < 0 := by grind
    have Hn : H < 0 := by
      apply Classical.byContradiction; intro w
      have := Rat.mul_nonneg (Rat.le_of_lt c0) (show 0 ≤ H by grind); grind
    rw [sb_neg Hn, sb_pos (show 0 < F by grind)]; decide
  · have eF : ab F = -F := if_neg hF
    rw [eF] at z2
    have := Rat.mul_nonneg (Rat.le_of_lt s0) (show 0 ≤ -F - κ by grind)
    have cH : 0 < c * H := by grind
    have Hp : 0 < H := by
      apply Classical.byContradiction; intro w
      have := Rat.mul_nonneg (Rat.le_of_lt c0) (show 0 ≤ -H by grind); grind
    rw [sb_pos Hp, sb_neg (show F < 0 by grind)]; decide
theorem lipd {f : Rat → Rat} {l d x y : Rat} (l0 : 0 < l) (h : ab (f x - f y) ≤ l * ab (x - y)) (hd : ab (x - y) ≤ d) : ab (f x - f y) ≤ l * d := by
  have := mul_le2 (Rat.le_of_lt l0) (Rat.le_refl) (ab_nn (x - y)) hd
  grind
theorem chain_grid : ∀ (fuel : Nat) (p q : List Int), TrZ p → TrZ q → p ≠ [] → q.length < p.length → q.length ≤ fuel →
    ∃ f g u v : Poly, (∀ a, evZ p a = evL f a * evZ (lasT fuel p q) a) ∧ (∀ a, evZ q a = evL g a * evZ (lasT fuel p q) a) ∧ (∀ a, evL u a * evL f a + evL v a * evL g a = 1) ∧
      ∃ R0, 0 < R0 ∧ ∀ R, R0 ≤ R → ∃ d, 0 < d ∧ ∀ a K, Grid R d a K → polT fuel p q = ix (evL f) (evL g) a K
  | fuel, p, [], hp, _, np, _, _ => by
    have one : ∀ a, evL [1] a = 1 := fun a => by rw [evL_cons, evL_nil]; grind
    refine ⟨[1], [], [1], [], fun a => by rw [(polT_nil _ _).2, one]; grind, fun a => by rw [evL_nil]; show (0 : Rat) = _; grind, fun a => by rw [one, evL_nil]; grind, 1, by decide, fun R _ => ⟨1, by decide, fun a K _ => ?_⟩⟩
    rw [(polT_nil _ _).1]
    induction K with
    | zero => rfl
    | succ K ih =>
      show (0 : Int) = ix _ _ a K + st _ _ _ _
      have : st (evL [1]) (evL []) (a K) (a (K + 1)) = 0 := by unfold st; rw [one, one, if_pos rfl]
      rw [this]
      have : ∀ K, ix (evL [1]) (evL []) a K = 0 := fun K => by
        induction K with
        | zero => rfl
        | succ K ih => show ix _ _ a K + st _ _ _ _ = 0; rw [ih]; unfold st; rw [one, one, if_pos rfl]; rfl
      rw [this]; rfl
  | 0, p, _ :: _, _, _, _, _, h => by simp at h
  | fuel + 1, p, b :: q', hp, hq, np, hl, hf => by
    generalize hqe : b :: q' = q at *
    have nq : q ≠ [] := by rw [← hqe]; simp
    obtain ⟨tn, ln⟩ := nxt_tr hp hq nq
    obtain ⟨f', g', u', v', e1, e2, e3, R', R'0, hR'⟩ := chain_grid fuel q (nxt p q) hq tn nq ln (by omega)
    obtain ⟨s, c, s0, c0, hd⟩ := div_vals hp hq nq
    rw [lasT_step nq, polT_step nq]
    generalize lasT fuel q (nxt p q) = L at *
    generalize (divZ p q).q = Q at *
    have sn : s ≠ 0 := fun z => by rw [z] at s0; grind
    have cn : c ≠ 0 := fun z => by rw [z] at c0; grind
    -- the new one
    obtain ⟨f, hf'⟩ : ∃ f : Poly, ∀ a, evL f a = 1 / s * (evZ Q a * evL f' a) + -(c / s) * evL g' a := ⟨pplus (smulP (1 / s) (ptimes (castP Q) f')) (smulP (-(c / s)) g'), fun a => by
      rw [evL_add (toP_pplus _ _), evL_smul (toP_smul _ _), evL_smul (toP_smul _ _), evL_mul (toP_ptimes _ _)]; rfl⟩
    have sf : ∀ a, s * evL f a = evZ Q a * evL f' a - c * evL g' a := fun a => by rw [hf' a]; grind
    obtain ⟨v, hv⟩ : ∃ v : Poly, ∀ a, evL v a = evL u' a + 1 / c * (evL v' a * evZ Q a) := ⟨pplus u' (smulP (1 / c) (ptimes v' (castP Q))), fun a => by
      rw [evL_add (toP_pplus _ _), evL_smul (toP_smul _ _), evL_mul (toP_ptimes _ _)]; rfl⟩
    have hp' : ∀ a, evZ p a = evL f a * evZ L a := fun a => by
      have a1 := hd a
      rw [e1 a, e2 a] at a1
      have a2 := sf a
      have : s * (evZ p a - evL f a * evZ L a) = 0 := by
        have : s * (evL f a * evZ L a) = (s * evL f a) * evZ L a := by grind
        rw [a2] at this
        grind
      rcases Rat.mul_eq_zero.mp this with w | w
      · exact absurd w sn
      · grind
    have bez : ∀ a, evL (smulP (-(s / c)) v') a * evL f a + evL v a * evL f' a = 1 := fun a => by
      rw [evL_smul (toP_smul _ _), hv a]
      have a2 := sf a
      have a3 := e3 a
      have a4 : -(s / c) * evL v' a * evL f a = -(1 / c) * evL v' a * (s * evL f a) := by grind
      rw [a4, a2]
      have : 1 / c * c = 1 := by grind
      grind
    refine ⟨f, f', smulP (-(s / c)) v', v, hp', e1, bez, ?_⟩
    obtain ⟨R1, R10, hR1⟩ := ends hp np hq nq hl hp' e1
    refine ⟨R' + R1, by grind, fun R hR => ?_⟩
    have Rn : 0 ≤ R := by grind
    obtain ⟨d', d'0, hd'⟩ := hR' R (by grind)
    obtain ⟨κ, κ0, hκ⟩ := sep bez Rn
    obtain ⟨lf, lf0, hlf⟩ := lip Rn f
    obtain ⟨lg, lg0, hlg⟩ := lip Rn f'
    obtain ⟨B, B0, hB⟩ := bnd Rn (castP Q)
    have Bl := div_pos2 (Rat.mul_pos B0 lg0) s0
    have hz : B * lg = s * (B * lg / s) := by grind
    generalize B * lg / s = z at *
    obtain ⟨d, d0, dd', k1, k2, k3⟩ := dchoose lf0 lg0 Bl κ0 d'0
    refine ⟨d, d0, fun a K hG => ?_⟩
    have ih := hd' a K (hG.mono dd')
    have stp : ∀ j, j < K → ab (evL f (a j) - evL f (a (j + 1))) ≤ lf * d ∧ ab (evL f' (a j) - evL f' (a (j + 1))) ≤ lg * d := fun j hj => by
      obtain ⟨s1, s2⟩ := hG.st j hj
      have w1 := hG.within j (by omega)
      have w2 := hG.within (j + 1) (by omega)
      have dist : ab (a j - a (j + 1)) ≤ d := ab_of (by grind) (by grind)
      exact ⟨lipd lf0 (hlf _ _ w1 w2) dist, lipd lg0 (hlg _ _ w1 w2) dist⟩
    have rc := ix_rec (f := evL f) (g := evL f') (a := a) K (fun j hj hc => (step_one (stp j hj).1 (stp j hj).2 k1 k2 (hκ _ (hG.within (j + 1) (by omega))) hc).1)
    have dv := ix_div (f := evL f) (g := evL f') (n := evL g') (a := a) K (fun j hj hc => by
      obtain ⟨_, z2, z3⟩ := step_one (stp j hj).2 (stp j hj).1 k2 k1 ((hκ _ (hG.within (j + 1) (by omega))).symm) hc
      exact opp s0 c0 hz k3 (sf (a (j + 1))) (hB _ (hG.within (j + 1) (by omega))) z3 z2 κ0)
    have en := hR1 R (by grind)
    rw [hG.lo, hG.hi] at rc
    omega
/-- a grid -/
theorem grid_ex {R d : Rat} (hR : 0 < R) (hd : 0 < d) : ∃ (a : Nat → Rat) (K : Nat), Grid R d a K := by
  obtain ⟨K, K0, hK⟩ := arch (2 * R / d)
  have Kp := nat_pos K0
  have Kn : (K : Rat) ≠ 0 := fun z => by rw [z] at Kp; grind
  have h0 : 0 < 2 * R / (K : Rat) := div_pos2 (by grind) Kp
  have hs : 2 * R / (K : Rat) ≤ d := by
    have e1 : 2 * R / d * d = 2 * R := by grind
    have := Rat.mul_pos (show 0 < (K : Rat) - 2 * R / d by grind) hd
    have e2 : 2 * R / (K : Rat) * (K : Rat) = 2 * R := by grind
    apply Classical.byContradiction; intro w
    have := Rat.mul_pos (show 0 < 2 * R / (K : Rat) - d by grind) Kp
    grind
  have suc : ∀ j : Nat, ((j + 1 : Nat) : Rat) = (j : Rat) + 1 := fun j => by rw [Rat.natCast_add]; rfl
  refine ⟨fun j => -R + (j : Rat) * (2 * R / (K : Rat)), K, ?_, ?_, fun j hj => ?_⟩
  · have z : ((0 : Nat) : Rat) = 0 := rfl
    try dsimp only
    rw [z]; grind
  · try dsimp only
    have e2 : (K : Rat) * (2 * R / (K : Rat)) = 2 * R := by grind
    rw [e2]; grind
  · try dsimp only
    rw [suc]; constructor <;> grind
/-- what doesn't go the wrong way -/
theorem ix_nn {p : List Int} (tp : TrZ p) (np : p ≠ []) {f g u v : Poly} {L : List Int} (hp : ∀ a, evZ p a = evL f a * evZ L a) (hq : ∀ a, evZ (derZ p) a = evL g a * evZ L a) (bez : ∀ a, evL u a * evL f a + evL v a * evL g a = 1) {R : Rat} (hR : 0 < R) : ∃ d, 0 < d ∧ ∀ a K, Grid R d a K → 0 ≤ ix (evL f) (evL g) a K := by
  have Rn := Rat.le_of_lt hR
  obtain ⟨κ, κ0, hκ⟩ := sep bez Rn
  obtain ⟨lf, lf0, hlf⟩ := lip Rn f
  obtain ⟨lg, lg0, hlg⟩ := lip Rn g
  obtain ⟨B1, B10, hB1⟩ := bnd Rn (castP p)
  obtain ⟨B2, B20, hB2⟩ := bnd Rn (castP L)
  obtain ⟨M, M0, hM⟩ := tay Rn (castP p)
  obtain ⟨d, d0, _, k1, k2, _⟩ := dchoose lf0 lg0 lg0 κ0 (show (0 : Rat) < 1 by decide)
  refine ⟨d, d0, fun a K hG => ?_⟩
  have each : ∀ x y, x ≤ y → ab x ≤ R → ab y ≤ R → y - x ≤ d → 0 ≤ st (evL f) (evL g) x y := fun x y xy wx wy hyx => by
    unfold st
    by_cases hc : sb (evL f x) = sb (evL f y)
    · rw [if_pos hc]; exact Int.le_refl _
    · rw [if_neg hc]
      by_cases hg : sb (evL f y) = sb (evL g y)
      · rw [if_pos hg]; decide
      · exfalso
        have wt : ∀ t, x ≤ t → t ≤ y → ab t ≤ R := fun t h1 h2 => by
          have a1 := ab_le x
          have a2 := ab_le y
          exact ab_of (by grind) (by grind)
        have hx' : x < y := by
          apply Classical.byContradiction; intro w
          have : x = y := by grind
          exact hc (by rw [this])
        have dist : ∀ s t, x ≤ s → s ≤ y → x ≤ t → t ≤ y → ab (s - t) ≤ d := fun s t _ _ _ _ => ab_of (by grind) (by grind)
        have Lg : ∀ s t, x ≤ s → s ≤ y → x ≤ t → t ≤ y → ab (evL g s - evL g t) ≤ lg * d := fun s t h1 h2 h3 h4 => by
          exact lipd lg0 (hlg _ _ (wt s h1 h2) (wt t h3 h4)) (dist s t h1 h2 h3 h4)
        have Lf : ab (evL f x - evL f y) ≤ lf * d := lipd lf0 (hlf _ _ wx wy) (dist x y (Rat.le_refl) xy xy (Rat.le_refl))
        obtain ⟨z1, z2, z3⟩ := step_one (g := evL g) Lf (Lg x y (Rat.le_refl) xy xy (Rat.le_refl)) k1 k2 (hκ y wy) hc
        have gs : ∀ t, x ≤ t → t ≤ y → sb (evL g t) = sb (evL g y) ∧ evL g t ≠ 0 := fun t h1 h2 => by
          have w := Lg t y h1 h2 xy (Rat.le_refl)
          refine ⟨keep z2 (by grind), fun z => ?_⟩
          rw [z] at w
          have : ab (0 - evL g y) = ab (evL g y) := by rw [show 0 - evL g y = - evL g y by grind, ab_neg]
          grind
        have tP := tp.tr
        have nP : castP p ≠ [] := fun z => np (cast_nil.mp z)
        cases hfy : sb (evL f y) with
        | false =>
          have hfx : sb (evL f x) = true := by rw [hfy] at hc; cases h : sb (evL f x) with
            | false => rw [h] at hc; exact absurd rfl hc
            | true => rfl
          have hgy : sb (evL g y) = true := by rw [hfy] at hg; cases h : sb (evL g y) with
            | false => rw [h] at hg; exact absurd rfl hg
            | true => rfl
          have fy := sb_f hfy
          obtain ⟨e, e0, ea, eb⟩ := small2 (show 0 < (y - x) / 2 by grind) (show 0 < (- evL f y / lf) / 2 by have := div_pos2 (show 0 < - evL f y by grind) lf0; grind)
          obtain ⟨k, hk⟩ := near_ne tP nP y (e := -e) (by grind)
          have kp := nat_pos (show 0 < k + 1 by omega)
          have k1 : (1 : Rat) ≤ ((k + 1 : Nat) : Rat) := by exact_mod_cast (show 1 ≤ k + 1 by omega)
          obtain ⟨w, hw⟩ : ∃ w, w = e / ((k + 1 : Nat) : Rat) := ⟨_, rfl⟩
          have w0 : 0 < w := by rw [hw]; exact div_pos2 e0 kp
          have we : w ≤ e := by
            have : w * ((k + 1 : Nat) : Rat) = e := by rw [hw]; grind
            have := Rat.mul_nonneg (Rat.le_of_lt w0) (show 0 ≤ ((k + 1 : Nat) : Rat) - 1 by grind)
            grind
          rw [show y + -e / ((k + 1 : Nat) : Rat) = y - w by rw [hw]; grind] at hk
          have fl := hlf (y - w) y (wt _ (by grind) (by grind)) wy
          have fa := ab_le (evL f (y - w) - evL f y)
          rw [show y - w - y = -w by grind, ab_neg] at fl
          have aw : ab w = w := if_pos (Rat.le_of_lt w0)
          rw [aw] at fl
          have lw : lf * w < - evL f y := by
            have q : - evL f y / lf * lf = - evL f y := by grind
            have := Rat.mul_pos lf0 (show 0 < - evL f y / lf - w by grind)
            grind
          refine hk (nogo (p := evL (castP p)) (p' := evL (castP (derZ p))) (f := evL f) (g := evL g) (L := evL (castP L)) (x := x) (y := y - w) (M := M) (B := B1 + B2) (l := lf) (by grind) M0 (by grind) lf0 (fun t h1 h2 => ⟨hp t, hq t, ?_, ?_, ?_⟩) (fun s t h1 h2 h3 h4 => ?_) (fun s t h1 h2 h3 h4 => ?_) (sb_t hfx) (by grind))
          · obtain ⟨g1, g2⟩ := gs t h1 (by grind)
            rw [hgy] at g1
            have := sb_t g1
            grind
          · have := hB1 t (wt t h1 (by grind)); grind
          · have := hB2 t (wt t h1 (by grind)); grind
          · rw [dL_der]; exact hM t s (wt t h3 (by grind)) (wt s h1 (by grind))
          · exact hlf s t (wt s h1 (by grind)) (wt t h3 (by grind))
        | true =>
          have hfx : sb (evL f x) = false := by rw [hfy] at hc; cases h : sb (evL f x) with
            | true => rw [h] at hc; exact absurd rfl hc
            | false => rfl
          have hgy : sb (evL g y) = false := by rw [hfy] at hg; cases h : sb (evL g y) with
            | true => rw [h] at hg; exact absurd rfl hg
            | false => rfl
          have fx := sb_f hfx
          obtain ⟨e, e0, ea, eb⟩ := small2 (show 0 < (y - x) / 2 by grind) (show 0 < (- evL f x / lf) / 2 by have := div_pos2 (show 0 < - evL f x by grind) lf0; grind)
          obtain ⟨k, hk⟩ := near_ne tP nP x (e := e) (by grind)
          have kp := nat_pos (show 0 < k + 1 by omega)
          have k1 : (1 : Rat) ≤ ((k + 1 : Nat) : Rat) := by exact_mod_cast (show 1 ≤ k + 1 by omega)
          obtain ⟨w, hw⟩ : ∃ w, w = e / ((k + 1 : Nat) : Rat) := ⟨_, rfl⟩
          have w0 : 0 < w := by rw [hw]; exact div_pos2 e0 kp
          have we : w ≤ e := by
            have : w * ((k + 1 : Nat) : Rat) = e := by rw [hw]; grind
            have := Rat.mul_nonneg (Rat.le_of_lt w0) (show 0 ≤ ((k + 1 : Nat) : Rat) - 1 by grind)
            grind
          rw [← hw] at hk
          have fl := hlf (x + w) x (wt _ (by grind) (by grind)) wx
          have fa := ab_le (evL f (x + w) - evL f x)
          rw [show x + w - x = w by grind] at fl
          have aw : ab w = w := if_pos (Rat.le_of_lt w0)
          rw [aw] at fl
          have lw : lf * w < - evL f x := by
            have q : - evL f x / lf * lf = - evL f x := by grind
            have := Rat.mul_pos lf0 (show 0 < - evL f x / lf - w by grind)
            grind
          have ng := nogo (p := fun t => evL (castP p) (-t)) (p' := fun t => - evL (castP (derZ p)) (-t)) (f := fun t => evL f (-t)) (g := fun t => - evL g (-t)) (L := fun t => evL (castP L) (-t)) (x := -y) (y := -(x + w)) (M := M) (B := B1 + B2) (l := lf) (by grind) M0 (by grind) lf0 (fun t h1 h2 => ⟨hp (-t), (by
              have := hq (-t)
              have this : evL (castP (derZ p)) (-t) = evL g (-t) * evL (castP L) (-t) := this
              try dsimp only
              rw [this]; grind), ?_, ?_, ?_⟩) (fun s t h1 h2 h3 h4 => ?_) (fun s t h1 h2 h3 h4 => ?_) (by
              try dsimp only
              rw [show - -y = y by grind]; exact sb_t hfy) (by
              try dsimp only
              rw [show - -(x + w) = x + w by grind]; grind)
          · try dsimp only at ng
            rw [show - -(x + w) = x + w by grind] at ng
            exact hk ng
          · obtain ⟨g1, g2⟩ := gs (-t) (by grind) (by grind)
            rw [hgy] at g1
            have := sb_f g1
            try dsimp only
            grind
          · have := hB1 (-t) (wt (-t) (by grind) (by grind))
            try dsimp only
            grind
          · have := hB2 (-t) (wt (-t) (by grind) (by grind))
            try dsimp only
            grind
          · have := hM (-t) (-s) (wt (-t) (by grind) (by grind)) (wt (-s) (by grind) (by grind))
            try dsimp only
            rw [dL_der]
            rw [show (-s - -t) * (-s - -t) = (s - t) * (s - t) by grind] at this
            rw [show evL (castP p) (-s) - evL (castP p) (-t) - (s - t) * - dL (castP p) (-t) = evL (castP p) (-s) - evL (castP p) (-t) - (-s - -t) * dL (castP p) (-t) by grind]
            exact this
          · have := hlf (-s) (-t) (wt (-s) (by grind) (by grind)) (wt (-t) (by grind) (by grind))
            rw [show -s - -t = -(s - t) by grind, ab_neg] at this
            exact this
  have all : ∀ n, n ≤ K → 0 ≤ ix (evL f) (evL g) a n := fun n => by
    induction n with
    | zero => intro _; exact Int.le_refl _
    | succ n ih =>
      intro hn
      have i := ih (by omega)
      have e := each (a n) (a (n + 1)) (hG.st n (by omega)).1 (hG.within n (by omega)) (hG.within (n + 1) hn) (hG.st n (by omega)).2
      show 0 ≤ ix (evL f) (evL g) a n + st _ _ _ _
      omega
  exact all K (Nat.le_refl _)
theorem polT_nn {p : List Int} (tp : TrZ p) (np : p ≠ []) {fuel : Nat} (hf : (derZ p).length ≤ fuel) : 0 ≤ polT fuel p (derZ p) := by
  have lp : 0 < p.length := List.length_pos_iff.mpr np
  obtain ⟨f, g, u, v, e1, e2, e3, R0, R00, hR⟩ := chain_grid fuel p (derZ p) tp (derZ_tr tp) np (by rw [derZ_len]; omega) hf
  obtain ⟨d1, d10, h1⟩ := hR R0 (Rat.le_refl)
  obtain ⟨d2, d20, h2⟩ := ix_nn tp np e1 e2 e3 R00
  obtain ⟨d, d0, da, db⟩ := small2 d10 d20
  obtain ⟨a, K, hG⟩ := grid_ex R00 d0
  rw [h1 a K (hG.mono da)]
  exact h2 a K (hG.mono db)
theorem rrT_nn : ∀ (k : Nat) {p : List Int}, TrZ p → p ≠ [] → 0 ≤ rrT k p
  | 0, p, _, _ => Int.le_refl _
  | k + 1, p, tp, np => by
    show 0 ≤ (if p.length ≤ 1 then (0 : Int) else _)
    by_cases h : p.length ≤ 1
    · rw [if_pos h]; exact Int.le_refl _
    · rw [if_neg h]
      obtain ⟨tL, nL, _⟩ := las_spec p.length p (derZ p) tp (derZ_tr tp) np (by rw [derZ_len]; omega)
      have := polT_nn tp np (fuel := p.length) (by rw [derZ_len]; omega)
      have := rrT_nn k tL nL
      omega
end EM
end

section
set_option Elab.async false
set_option linter.all false
namespace EM
open ShMat
def witZ (w : List Int) : Int := ((w.length : Int) - 1 - onZ w + difZ (mobZ w)).fdiv 2
def cntZ (w : List Int) : List Int := [witZ w, onZ w, (w.length : Int) - 1 - onZ w - witZ w]
theorem on_nn {w : List Int} (tw : TrZ w) (nw : w ≠ []) : 0 ≤ onZ w := by
  have tM : TrZ (mobZ w) := mobZ_tr
  have nM := mobZ_ne tw nw
  have Ml := mobZ_len w
  obtain ⟨pl, ql⟩ := ax_len _ tM nM
  have lM : 0 < (mobZ w).length := List.length_pos_iff.mpr nM
  have tP : TrZ (axP (mobZ w)) := by unfold axP; split <;> exact axZ_tr _ _
  have tQ : TrZ (axQ (mobZ w)) := by unfold axQ; split <;> exact axZ_tr _ _
  have nP : axP (mobZ w) ≠ [] := fun z => by rw [z] at pl; simp at pl; omega
  obtain ⟨tL, nL, _⟩ := las_spec (axQ (mobZ w)).length (axP (mobZ w)) (axQ (mobZ w)) tP tQ nP (Nat.le_refl _)
  have := rrT_nn (lasZ (mobZ w)).length (p := lasZ (mobZ w)) tL nL
  unfold onZ
  omega
theorem counts_ok {x : Poly} {w : List Int} {κ : Rat} (tw : TrZ w) (nx : trim x ≠ []) (κ0 : κ ≠ 0) (hw : ∀ i, co (trim x) i = κ * cz w i) : cntZ w = [((circle x).1 : Int), ((circle x).2.1 : Int), ((circle x).2.2 : Int)] := by
  obtain ⟨wl, on, dif⟩ := circ_top (trim_tr x) nx tw κ0 hw x.length (trim_len x)
  have nw : w ≠ [] := fun z => by rw [z] at wl; exact nx (List.length_eq_zero_iff.mp wl.symm)
  have nn := on_nn tw nw
  have e : circle x = ((sidesFrom x.length (trim x)).1, ((trim x).length - 1 - (sidesFrom x.length (trim x)).1 - (sidesFrom x.length (trim x)).2, (sidesFrom x.length (trim x)).2)) := rfl
  have lx : 0 < (trim x).length := List.length_pos_iff.mpr nx
  have wit : witZ w = ((sidesFrom x.length (trim x)).1 : Int) := by
    unfold witZ
    rw [wl, dif]
    have : Int.fdiv (2 * ((sidesFrom x.length (trim x)).1 : Int)) 2 = ((sidesFrom x.length (trim x)).1 : Int) := by
      rw [Int.fdiv_eq_ediv_of_nonneg _ (by decide)]; omega
    exact this
  rw [e]
  unfold cntZ
  rw [wit, wl]
  dsimp only
  generalize (sidesFrom x.length (trim x)).1 = s1 at *
  generalize (sidesFrom x.length (trim x)).2 = s2 at *
  have h1 : onZ w = (((trim x).length - 1 - s1 - s2 : Nat) : Int) := by omega
  rw [h1]
  congr 3
  omega
end EM
end

section
set_option Elab.async false
set_option linter.all false
namespace EM
open ShMat
def chT : Nat → List Int → List Int → List (List Int)
  | 0, p, _ => [p]
  | n + 1, p, q => if q = [] then [p] else p :: chT n q (nxt p q)
theorem chT_nil (n : Nat) (p : List Int) : chT n p [] = [p] := by
  cases n with
  | zero => rfl
  | succ n => exact if_pos rfl
theorem chT_step {n : Nat} {p q : List Int} (nq : q ≠ []) : chT (n + 1) p q = p :: chT n q (nxt p q) := by
  show (if q = [] then [p] else _) = _; rw [if_neg nq]
theorem chT_head : ∀ (n : Nat) (p q : List Int), chT n p q = p :: (chT n p q).tail
  | 0, p, q => rfl
  | n + 1, p, q => by
    by_cases h : q = []
    · rw [h, chT_nil]; rfl
    · rw [chT_step h]; rfl
theorem chT_more : ∀ (n m : Nat) (p q : List Int), TrZ p → TrZ q → q.length ≤ n → n ≤ m → chT n p q = chT m p q
  | n, m, p, [], _, _, _, _ => by rw [chT_nil, chT_nil]
  | 0, m, p, _ :: _, _, _, h, _ => by simp at h
  | n + 1, 0, p, _ :: _, _, _, _, h => by omega
  | n + 1, m + 1, p, b :: q', hp, hq, h1, h2 => by
    generalize hqe : b :: q' = q at *
    have nq : q ≠ [] := by rw [← hqe]; simp
    obtain ⟨tn, ln⟩ := nxt_tr hp hq nq
    rw [chT_step nq, chT_step nq, chT_more n m q (nxt p q) hq tn (by omega) (by omega)]
theorem chT_len : ∀ (n : Nat) (p q : List Int), (chT n p q).length ≤ n + 1
  | 0, p, q => Nat.le_refl _
  | n + 1, p, q => by
    by_cases h : q = []
    · rw [h, chT_nil]; simp
    · rw [chT_step h]
      have := chT_len n q (nxt p q)
      simp only [List.length_cons]; omega
theorem chT_last : ∀ (n : Nat) (p q : List Int), (chT n p q)[(chT n p q).length - 1]? = some (lasT n p q)
  | 0, p, q => rfl
  | n + 1, p, q => by
    by_cases h : q = []
    · rw [h, chT_nil, (polT_nil _ _).2]; rfl
    · rw [chT_step h, lasT_step h]
      have ih := chT_last n q (nxt p q)
      have hh := chT_head n q (nxt p q)
      have l : 0 < (chT n q (nxt p q)).length := by rw [hh]; simp
      rw [List.length_cons, Nat.add_sub_cancel]
      obtain ⟨t, ht⟩ : ∃ t, (chT n q (nxt p q)).length = t + 1 := ⟨_, (Nat.sub_add_cancel l).symm⟩
      rw [ht] at ih ⊢
      rw [List.getElem?_cons_succ]
      exact ih
theorem chT_all : ∀ (n : Nat) (p q : List Int), TrZ p → TrZ q → p ≠ [] → ∀ r ∈ chT n p q, r ≠ []
  | 0, p, q, _, _, np, r, hr => by
    have : r = p := by simpa using (show r ∈ [p] from hr)
    rw [this]; exact np
  | n + 1, p, q, hp, hq, np, r, hr => by
    by_cases h : q = []
    · rw [h, chT_nil] at hr
      have : r = p := by simpa using hr
      rw [this]; exact np
    · rw [chT_step h] at hr
      rcases List.mem_cons.mp hr with e | e
      · rw [e]; exact np
      · exact chT_all n q (nxt p q) hq (nxt_tr hp hq h).1 h r e
def chB : List Bool → Int
  | a :: b :: t => (if a = b then 0 else 1) + chB (b :: t)
  | _ => 0
def enB (p : List Int) : Bool := decide (0 < ldZ p)
def beB (p : List Int) : Bool := decide (enB p = decide ((p.length : Int) % 2 = 1))
theorem poles_eq : ∀ (n : Nat) (p q : List Int), TrZ p → TrZ q → p ≠ [] → q.length < p.length → q.length ≤ n → chB ((chT n p q).map beB) - chB ((chT n p q).map enB) = polT n p q
  | n, p, [], _, _, _, _, _ => by rw [chT_nil, (polT_nil _ _).1]; rfl
  | 0, p, _ :: _, _, _, _, _, h => by simp at h
  | n + 1, p, b :: q', hp, hq, np, hl, hf => by
    generalize hqe : b :: q' = q at *
    have nq : q ≠ [] := by rw [← hqe]; simp
    obtain ⟨tn, ln⟩ := nxt_tr hp hq nq
    have ih := poles_eq n q (nxt p q) hq tn nq ln (by omega)
    rw [chT_step nq, polT_step nq, ← ih]
    have hh := chT_head n q (nxt p q)
    rw [hh]
    show ((if beB p = beB q then (0 : Int) else 1) + chB (beB q :: _)) - ((if enB p = enB q then (0 : Int) else 1) + chB (enB q :: _)) = _
    have key : (if beB p = beB q then (0 : Int) else 1) - (if enB p = enB q then (0 : Int) else 1) = sgn1 p q := by
      unfold sgn1 beB
      show _ = (if (p.length - q.length) % 2 = 0 then (0 : Int) else if enB p = enB q then 1 else -1)
      by_cases c : (p.length - q.length) % 2 = 0
      · rw [if_pos c]
        have e : decide ((p.length : Int) % 2 = 1) = decide ((q.length : Int) % 2 = 1) := decide_eq_decide.mpr (by omega)
        rw [e]
        generalize enB p = x
        generalize enB q = y
        generalize decide ((q.length : Int) % 2 = 1) = z
        revert x y z; decide
      · rw [if_neg c]
        have e : decide ((p.length : Int) % 2 = 1) = !decide ((q.length : Int) % 2 = 1) := by
          by_cases w : (q.length : Int) % 2 = 1
          · rw [decide_eq_true w, decide_eq_false (by omega)]; rfl
          · rw [decide_eq_false w, decide_eq_true (by omega)]; rfl
        rw [e]
        generalize enB p = x
        generalize enB q = y
        generalize decide ((q.length : Int) % 2 = 1) = z
        revert x y z; decide
    rw [List.map_cons, List.map_cons]
    show ((if beB p = beB q then (0 : Int) else 1) + chB (beB q :: _)) - ((if enB p = enB q then (0 : Int) else 1) + chB (enB q :: _)) = _
    omega
/-- counted as the program counts -/
def chK (bs : List Bool) (n : Nat) : List Nat := (List.range n).filter fun k => !decide (bs.getD (k + 1) false = bs.getD k false)
theorem chK_eq : ∀ bs : List Bool, ((chK bs (bs.length - 1)).length : Int) = chB bs
  | [] => rfl
  | [_] => rfl
  | a :: b :: t => by
    have ih := chK_eq (b :: t)
    show (((List.range (t.length + 1)).filter _).length : Int) = (if a = b then 0 else 1) + chB (b :: t)
    rw [← ih]
    unfold chK
    rw [List.range_succ_eq_map, List.filter_cons, List.filter_map, show (b :: t).length - 1 = t.length from rfl]
    have e : ((fun k => !decide ((a :: b :: t).getD (k + 1) false = (a :: b :: t).getD k false)) ∘ Nat.succ) = fun k => !decide ((b :: t).getD (k + 1) false = (b :: t).getD k false) := rfl
    rw [e]
    by_cases c : a = b
    · rw [if_pos c, if_neg (by show ¬ (!decide (b = a)) = true; rw [c]; simp), List.length_map]; omega
    · rw [if_neg c, if_pos (by show (!decide (b = a)) = true; simp; exact fun z => c z.symm), List.length_cons, List.length_map]; omega
theorem BZ.neg {m : Nat} {f : List Int} (h : BZ m f) : BZ m (growZ f (-1)) := fun k => by
  rw [coZ_grow]
  have := h k
  rw [show coZ f k * -1 = -(coZ f k) by omega, Int.natAbs_neg]; exact this
theorem nxt_bd {p q : List Int} {M : Nat} (bp : BZ M p) (bq : BZ M q) : BZ (M + (p.length + 1 - q.length) * (M + 1)) (nxt p q) := by
  unfold nxt
  exact (dv_bd bp bq _ _).cont.neg
theorem las_bd : ∀ (n : Nat) (p q : List Int) (M C : Nat), TrZ p → TrZ q → p ≠ [] → q.length ≤ n → BZ M p → BZ M q → Pot M p.length q.length C → ∃ M', BZ M' (lasT n p q) ∧ (M' + 1) * 3 ^ (lasT n p q).length ≤ C ∧ M ≤ M'
  | n, p, [], M, C, _, _, np, _, bp, _, pot => by
    rw [(polT_nil _ _).2]
    have lp : 0 < p.length := List.length_pos_iff.mpr np
    refine ⟨M, bp, ?_, Nat.le_refl _⟩
    unfold Pot at pot
    exact Nat.le_trans (Nat.mul_le_mul_left _ (Nat.pow_le_pow_right (by decide) (by simp; omega))) pot
  | 0, p, _ :: _, _, _, _, _, _, h, _, _, _ => by simp at h
  | n + 1, p, b :: q', M, C, hp, hq, np, hf, bp, bq, pot => by
    generalize hqe : b :: q' = q at *
    have nq : q ≠ [] := by rw [← hqe]; simp
    obtain ⟨tn, ln⟩ := nxt_tr hp hq nq
    rw [lasT_step nq]
    obtain ⟨p1, p2⟩ := pot_step pot ln
    obtain ⟨M', b1, b2, b3⟩ := las_bd n q (nxt p q) _ C hq tn nq (by omega) (bq.mono (by omega)) (nxt_bd bp bq) p1
    exact ⟨M', b1, b2, by omega⟩
theorem las_len {n : Nat} {p q : List Int} (hp : TrZ p) (hq : TrZ q) (np : p ≠ []) (nq : q ≠ []) (hl : q.length ≤ n) : (lasT n p q).length ≤ q.length := by
  obtain ⟨tL, nL, _, d2, _⟩ := las_spec n p q hp hq np hl
  have := d2.len tL.tr (fun z => nL (cast_nil.mp z)) hq.tr (fun z => nq (cast_nil.mp z))
  rwa [cast_len, cast_len] at this
theorem BZ.der {m : Nat} {f : List Int} (h : BZ m f) (hl : f.length ≤ 9) : BZ (m + 4) (derZ f) := fun k => by
  rw [coZ_der]
  by_cases c : k + 1 < f.length
  · have a : (((k + 1 : Nat) : Int)).natAbs < 2 ^ 4 := by rw [Int.natAbs_natCast]; omega
    rw [Int.mul_comm]
    exact natAbs_mul_lt (h (k + 1)) a
  · rw [coZ_out (by omega)]; simp; exact Nat.two_pow_pos _
theorem BZ.ax {m : Nat} {f : List Int} (h : BZ m f) (s : Nat) : BZ m (axZ f s) := fun k => by
  unfold axZ
  rw [coZ_trim, coZ_range]
  split
  · split
    · exact Nat.two_pow_pos m
    · split
      · exact h k
      · rw [Int.natAbs_neg]; exact h k
  · exact Nat.two_pow_pos m
theorem mulZ_bd {m n : Nat} {f g : List Int} (hf : BZ m f) (hg : BZ n g) : BZ (n + m + f.length) (mulZ f g) := mulTo_bd hf hg _
theorem BZ.two (b : Int) (hb : b = 1 ∨ b = -1) : BZ 1 [1, b] := fun k => by
  match k with
  | 0 => show (1 : Int).natAbs < 2 ^ 1; decide
  | 1 => show b.natAbs < 2 ^ 1; rcases hb with e | e <;> rw [e] <;> decide
  | k + 2 => rw [coZ_out (by simp)]; decide
theorem mobR_bd {f : List Int} {m : Nat} (hf : BZ m f) : ∀ k, k ≤ 9 → BZ (1 + 11 * k) (mobR f k).2 ∧ BZ (m + 101 + 12 * k) (mobR f k).1
  | 0, _ => ⟨fun k => by
      match k with
      | 0 => show (1 : Int).natAbs < 2 ^ 1; decide
      | k + 1 => show (coZ [1] (k + 1)).natAbs < _; rw [coZ_out (by simp)]; decide, BZ.nil _⟩
  | k + 1, hk => by
    obtain ⟨h1, h2⟩ := mobR_bd hf k (by omega)
    have l1 := (mobR_fac f 0 k).2
    have l2 := mobR_len f k
    refine ⟨?_, ?_⟩
    · show BZ _ (mulZ (mobR f k).2 [1, -1])
      exact (mulZ_bd h1 (BZ.two (-1) (.inr rfl))).mono (by omega)
    · show BZ _ (sumZ (mulZ (mobR f k).1 [1, 1]) (growZ (mobR f k).2 (coZ f (f.length - 1 - k))))
      exact (BZ.sum (mulZ_bd h2 (BZ.two 1 (.inl rfl))) (BZ.grow h1 (hf _))).mono (by omega)
theorem rrT_more : ∀ (n m : Nat) {p : List Int}, TrZ p → p ≠ [] → p.length ≤ n → n ≤ m → rrT n p = rrT m p
  | 0, m, p, _, np, h, _ => absurd (List.length_eq_zero_iff.mp (by omega)) np
  | n + 1, 0, p, _, _, _, h => by omega
  | n + 1, m + 1, p, tp, np, h1, h2 => by
    show (if p.length ≤ 1 then (0 : Int) else _) = (if p.length ≤ 1 then (0 : Int) else _)
    by_cases c : p.length ≤ 1
    · rw [if_pos c, if_pos c]
    · rw [if_neg c, if_neg c]
      obtain ⟨tL, nL, _⟩ := las_spec p.length p (derZ p) tp (derZ_tr tp) np (by rw [derZ_len]; omega)
      have nd : derZ p ≠ [] := fun z => by have := derZ_len p; rw [z] at this; simp at this; omega
      have := las_len tp (derZ_tr tp) np nd (n := p.length) (by rw [derZ_len]; omega)
      rw [derZ_len] at this
      rw [rrT_more n m tL nL (by omega) (by omega)]
theorem rrT_step {p : List Int} (tp : TrZ p) (np : p ≠ []) (h : 1 < p.length) : rrT p.length p = polT (derZ p).length p (derZ p) + rrT (lasT (derZ p).length p (derZ p)).length (lasT (derZ p).length p (derZ p)) ∧ (lasT (derZ p).length p (derZ p)).length < p.length := by
  obtain ⟨n, hn⟩ : ∃ n, p.length = n + 1 := ⟨p.length - 1, by omega⟩
  have dl := derZ_len p
  have nd : derZ p ≠ [] := fun z => by rw [z] at dl; simp at dl; omega
  obtain ⟨tL, nL, _⟩ := las_spec (derZ p).length p (derZ p) tp (derZ_tr tp) np (Nat.le_refl _)
  have ll := las_len tp (derZ_tr tp) np nd (n := (derZ p).length) (Nat.le_refl _)
  obtain ⟨e1, e2⟩ := polT_more (derZ p).length p.length p (derZ p) tp (derZ_tr tp) (Nat.le_refl _) (by omega)
  refine ⟨?_, by omega⟩
  have e : rrT p.length p = polT p.length p (derZ p) + rrT n (lasT p.length p (derZ p)) := by
    conv => lhs; rw [hn]
    show (if p.length ≤ 1 then (0 : Int) else _) = _
    rw [if_neg (by omega)]
  rw [e, ← e1, ← e2, rrT_more _ n tL nL (Nat.le_refl _) (by omega)]
theorem pot9 {a b : Nat} (ha : a ≤ 9) (hb : b ≤ 8) : Pot 1620 a b 60000000 := by
  unfold Pot
  exact Nat.le_trans (Nat.mul_le_mul_left _ (Nat.pow_le_pow_right (by decide) (show max a (b + 1) ≤ 9 by omega))) (by decide)
end EM
end

set_option linter.all false
set_option Elab.async false
set_option maxRecDepth 100000
set_option maxHeartbeats 400000
namespace EM
open PySem PySem.Spec PyProof.Rows L2
open ShMat (Mat at_ make)
def top (i : Nat) : Stmt := PySem.Challenge.pw_exactmatrices_s12_circle.main.body.getD i (.Pass ⟨0, 0, 0, 0⟩)
section
variable {P : Program} {w : World} {K : PySem.W.Frag} {mg : Str → Option Value} {base : Heap}
/-! ### the class Polynomial -/
abbrev si_Polynomial : Stmt := inClass (top 11) 0
theorem sci_Polynomial : FnScope ["self", "whole", "scale"] ["self", "whole", "scale"] (defScope si_Polynomial) := ⟨rfl, rfl, rfl, by decide +kernel, rfl, by decide +kernel, by decide +kernel⟩
structure KlsPolynomial (P : Program) (w : World) (K : PySem.W.Frag) (mg : Str → Option Value) (base : Heap) (C : Addr) : Prop where
  cl : Cls K C
  no : ∀ f ∈ (["self", "whole", "scale"] : List Str).drop 1, NoAttr K C f
  mgC : mg "Polynomial" = some (.ref C)
  made : ∃ (f : Addr) (fd : FuncData), Mk K C f ∧ FnOk P w K mg base CX0 33 f fd ["self", "whole", "scale"] (spInit2 C "whole" "scale") ∧ Binds K fd ["self", "whole", "scale"] []
theorem oki_Polynomial {f C : Addr} {fd : FuncData} (F : Fun K "__init__" "Polynomial.__init__" si_Polynomial f fd) (cl : Cls K C) (no : ∀ f ∈ (["self", "whole", "scale"] : List Str).drop 1, NoAttr K C f) : FnOk P w K mg base CX0 33 f fd ["self", "whole", "scale"] (spInit2 C "whole" "scale") := by
  refine F.ok sci_Polynomial (fun vs H Q E h => ?_) (fun cdv A outer s H vs Q E hr h => ?_)
  · obtain ⟨p, dx, v1, v2, rfl, _⟩ := h
    rfl
  · obtain ⟨p, dx, v1, v2, rfl, hp, k⟩ := h
    refine ⟨_, pss_cons (ps_fld (pv 0) (pv 1) rfl) (pss_one (ps_fld (pv 0) (pv 2) rfl)), ?_⟩
    have l1 := length_putF "whole" v1 []
    have l0 : ([] : List (Str × V)).length = 0 := rfl
    refine ⟨_, rfl, _, rfl, p, C, dx, [], rfl, hp, cl, no _ (by simp), (by decide), ?_⟩
    refine ⟨_, rfl, _, rfl, p, C, dx, _, rfl, upd_same, cl, no _ (by simp), (by omega), ?_⟩
    rw [upd_upd]
    exact k
theorem mkPolynomial {h : Heap} (X : K.In h) (G : h.Ns mainGlobals mg) {C f : Addr} {oc kV dc pm cd ct : Value} {od an : Option Addr} {sl : Array (Option Value)}
    (a : PySem.W.nsIn K mainGlobals "Polynomial" = some (some (.ref C))) (ai : PySem.W.findIn K (.ref C) "__init__" = some (some (.ref f))) (hf : PySem.W.isFn K (.ref f) = true) (l : K.lookup f = some ⟨oc, od, .func (PySem.W.fnOf "__init__" "Polynomial.__init__" (defArgs si_Polynomial) (defBody si_Polynomial) (defScope si_Polynomial) .none kV dc pm an cd ct), sl⟩) (e : PySem.W.codeIn K cd "Polynomial.__init__" = true) (k : PySem.W.keepIn K (.ref f) = true)
    (pg : PySem.W.plainGet K C Str.empty = true) (hd : PySem.W.hasDictIn K C = true) (po : PySem.W.plainOver K C = true) (sa : PySem.W.findIn K (.ref C) "__setattr__" = some (some (.builtin "object.__setattr__"))) (mk : PySem.W.makesIn K C = true) (kc : PySem.W.keepIn K (.ref C) = true)
    (n1 : PySem.W.findIn K (.ref C) "whole" = some none) (n2 : PySem.W.findIn K (.ref C) "scale" = some none) : KlsPolynomial P w K mg base C := by
  have cl : Cls K C := ⟨pg, hd, po, sa⟩
  have no : ∀ f ∈ (["self", "whole", "scale"] : List Str).drop 1, NoAttr K C f := fun f hf => by
    simp only [List.drop_succ_cons, List.drop_zero, List.mem_cons, List.not_mem_nil, or_false] at hf
    rcases hf with rfl | rfl
    · exact n1
    · exact n2
  have F := fun_mk (st := si_Polynomial) l e k
  exact ⟨cl, no, PySem.W.mg_of X G a, f, _, ⟨mk, ai, hf, kc⟩, oki_Polynomial F cl no, F.binds fun _ _ _ _ _ _ us hl => match us, hl with | [_, _, _], _ => rfl⟩
theorem pe_make_Polynomial {X : Cx} {C : Addr} {e : Expr} {es : List Expr} {t : TA} {p pos : Pos} (T : KlsPolynomial X.prog X.w X.K X.mg X.base C) (hr : Room 34 X.A) (hg : Gl X "Polynomial") (ha : PA X (e :: es) t) (he : starEach (e :: es) X.env = (false, eval e X.env) :: starEach es X.env := by rfl) (hpl : (backTo pos (starEach es X.env)).any (·.1) = false := by rfl) :
    PE X (.Call (.Name "Polynomial" p) (e :: es) [] pos) (tMake C (spInit2 C "whole" "scale") [] E0 t) := by
  obtain ⟨f, fd, h1, h2, h3⟩ := T.made
  exact pe_make h1 h2 hr hg T.mgC h3 .nil pass0 ha (by decide) he hpl
variable {CPolynomial : Addr}
/-! ### the class Division -/
abbrev si_Division : Stmt := inClass (top 12) 0
theorem sci_Division : FnScope ["self", "quotient", "rest", "scale"] ["self", "quotient", "rest", "scale"] (defScope si_Division) := ⟨rfl, rfl, rfl, by decide +kernel, rfl, by decide +kernel, by decide +kernel⟩
structure KlsDivision (P : Program) (w : World) (K : PySem.W.Frag) (mg : Str → Option Value) (base : Heap) (C : Addr) : Prop where
  cl : Cls K C
  no : ∀ f ∈ (["self", "quotient", "rest", "scale"] : List Str).drop 1, NoAttr K C f
  mgC : mg "Division" = some (.ref C)
  made : ∃ (f : Addr) (fd : FuncData), Mk K C f ∧ FnOk P w K mg base CX0 33 f fd ["self", "quotient", "rest", "scale"] (spInit3 C "quotient" "rest" "scale") ∧ Binds K fd ["self", "quotient", "rest", "scale"] []
theorem oki_Division {f C : Addr} {fd : FuncData} (F : Fun K "__init__" "Division.__init__" si_Division f fd) (cl : Cls K C) (no : ∀ f ∈ (["self", "quotient", "rest", "scale"] : List Str).drop 1, NoAttr K C f) : FnOk P w K mg base CX0 33 f fd ["self", "quotient", "rest", "scale"] (spInit3 C "quotient" "rest" "scale") := by
  refine F.ok sci_Division (fun vs H Q E h => ?_) (fun cdv A outer s H vs Q E hr h => ?_)
  · obtain ⟨p, dx, v1, v2, v3, rfl, _⟩ := h
    rfl
  · obtain ⟨p, dx, v1, v2, v3, rfl, hp, k⟩ := h
    refine ⟨_, pss_cons (ps_fld (pv 0) (pv 1) rfl) (pss_cons (ps_fld (pv 0) (pv 2) rfl) (pss_one (ps_fld (pv 0) (pv 3) rfl))), ?_⟩
    have l1 := length_putF "quotient" v1 []
    have l2 := length_putF "rest" v2 (putF "quotient" v1 [])
    have l0 : ([] : List (Str × V)).length = 0 := rfl
    refine ⟨_, rfl, _, rfl, p, C, dx, [], rfl, hp, cl, no _ (by simp), (by decide), ?_⟩
    refine ⟨_, rfl, _, rfl, p, C, dx, _, rfl, upd_same, cl, no _ (by simp), (by omega), ?_⟩
    refine ⟨_, rfl, _, rfl, p, C, dx, _, rfl, upd_same, cl, no _ (by simp), (by omega), ?_⟩
    rw [upd_upd, upd_upd]
    exact k
theorem mkDivision {h : Heap} (X : K.In h) (G : h.Ns mainGlobals mg) {C f : Addr} {oc kV dc pm cd ct : Value} {od an : Option Addr} {sl : Array (Option Value)}
    (a : PySem.W.nsIn K mainGlobals "Division" = some (some (.ref C))) (ai : PySem.W.findIn K (.ref C) "__init__" = some (some (.ref f))) (hf : PySem.W.isFn K (.ref f) = true) (l : K.lookup f = some ⟨oc, od, .func (PySem.W.fnOf "__init__" "Division.__init__" (defArgs si_Division) (defBody si_Division) (defScope si_Division) .none kV dc pm an cd ct), sl⟩) (e : PySem.W.codeIn K cd "Division.__init__" = true) (k : PySem.W.keepIn K (.ref f) = true)
    (pg : PySem.W.plainGet K C Str.empty = true) (hd : PySem.W.hasDictIn K C = true) (po : PySem.W.plainOver K C = true) (sa : PySem.W.findIn K (.ref C) "__setattr__" = some (some (.builtin "object.__setattr__"))) (mk : PySem.W.makesIn K C = true) (kc : PySem.W.keepIn K (.ref C) = true)
    (n1 : PySem.W.findIn K (.ref C) "quotient" = some none) (n2 : PySem.W.findIn K (.ref C) "rest" = some none) (n3 : PySem.W.findIn K (.ref C) "scale" = some none) : KlsDivision P w K mg base C := by
  have cl : Cls K C := ⟨pg, hd, po, sa⟩
  have no : ∀ f ∈ (["self", "quotient", "rest", "scale"] : List Str).drop 1, NoAttr K C f := fun f hf => by
    simp only [List.drop_succ_cons, List.drop_zero, List.mem_cons, List.not_mem_nil, or_false] at hf
    rcases hf with rfl | rfl | rfl
    · exact n1
    · exact n2
    · exact n3
  have F := fun_mk (st := si_Division) l e k
  exact ⟨cl, no, PySem.W.mg_of X G a, f, _, ⟨mk, ai, hf, kc⟩, oki_Division F cl no, F.binds fun _ _ _ _ _ _ us hl => match us, hl with | [_, _, _, _], _ => rfl⟩
theorem pe_make_Division {X : Cx} {C : Addr} {e : Expr} {es : List Expr} {t : TA} {p pos : Pos} (T : KlsDivision X.prog X.w X.K X.mg X.base C) (hr : Room 34 X.A) (hg : Gl X "Division") (ha : PA X (e :: es) t) (he : starEach (e :: es) X.env = (false, eval e X.env) :: starEach es X.env := by rfl) (hpl : (backTo pos (starEach es X.env)).any (·.1) = false := by rfl) :
    PE X (.Call (.Name "Division" p) (e :: es) [] pos) (tMake C (spInit3 C "quotient" "rest" "scale") [] E0 t) := by
  obtain ⟨f, fd, h1, h2, h3⟩ := T.made
  exact pe_make h1 h2 hr hg T.mgC h3 .nil pass0 ha (by decide) he hpl
variable {CDivision : Addr}
abbrev s_common_divisor : Stmt := top 1
theorem sc_common_divisor : FnScope ["m", "n", "rest"] ["m", "n"] (defScope s_common_divisor) := ⟨rfl, rfl, rfl, by decide +kernel, rfl, by decide +kernel, by decide +kernel⟩
abbrev sp_common_divisor : Sp := SpF (α := Int × Int) (fun _ => True) (fun x => [rI' x.1, rI' x.2]) (fun x => rI' (Int.gcd x.1 x.2))
theorem ok_common_divisor (T : At K mg "common_divisor" s_common_divisor ["m", "n"]) (h_abs : mg "abs" = none) : Cal P w K mg base 33 "common_divisor" ["m", "n"] sp_common_divisor := by
  refine T.cal fun f fd F => fun_pure F sc_common_divisor (fun _ => rfl) fun cdv A outer s H E hr => ⟨_, (pss_cons (ps_set (i := 0) sc_common_divisor.nd rfl (by first | exact Or.inl rfl | exact Or.inr rfl) (pe_callB call_abs rfl h_abs boot_abs (pa_cons (pv 0) pa_nil)))
      (pss_cons (ps_set (i := 1) sc_common_divisor.nd rfl (by first | exact Or.inl rfl | exact Or.inr rfl) (pe_callB call_abs rfl h_abs boot_abs (pa_cons (pv 1) pa_nil)))
      (pss_cons (ps_while PassesOwn.never (pt_cmp (pc_neI (pv 1) pe_int)) (pss_cons (ps_set (i := 2) sc_common_divisor.nd rfl (by first | exact Or.inl rfl | exact Or.inr rfl) (pe_op op_mod (pv 0) (pv 1)))
      (pss_cons (ps_set (i := 0) sc_common_divisor.nd rfl (by first | exact Or.inl rfl | exact Or.inr rfl) (pv 1))
      (pss_one (ps_set (i := 1) sc_common_divisor.nd rfl (by first | exact Or.inl rfl | exact Or.inr rfl) (pv 2))))))
      (pss_one (ps_ret (pv 0)))))), ?_⟩
  rintro ⟨m, n⟩ -
  refine dens_seq (dens_set 0 (den_abs (den_var rfl))) (dens_seq (dens_set 1 (den_abs (den_var rfl))) ?_)
  rw [abs_if, abs_if]
  refine dens_seq (ρ1 := [.sh (rI' (Int.gcd m n)), .no, .no]) (dens_while (α := Nat × Nat) (fun s => [.sh (rI' s.1), .sh (rI' s.2), .no]) (fun s => Nat.gcd s.1 s.2 = Int.gcd m n) (fun s => s.2) (m.natAbs, n.natAbs) rfl ?_) (dens_ret (den_var rfl))
  rintro ⟨x, y⟩ hxy
  refine ⟨_, dent_B (den_cmp (den_var rfl) (den_c _)), fun h => ?_, fun h => ?_⟩
  · have hy : y ≠ 0 := by
      intro z; subst z; simp at h
    refine ⟨(y, x % y), _, dens_seq (dens_set 2 (den_opC (den_var rfl) (den_var rfl) (by show (0 : Int) < (y : Int); omega))) (dens_seq (dens_set 0 (den_var rfl)) (dens_set 1 (den_var rfl))), fun G0 H0 G H σ Fr => ?_, (gcd_step x y hy).trans hxy, Nat.mod_lt _ (by omega)⟩
    exact Fr.forget 2
  · intro G0 H0 G H σ Fr
    have hy : y = 0 := by
      simp at h; omega
    subst hy
    have e : (x : Int) = (Int.gcd m n : Int) := by
      have : Nat.gcd x 0 = Int.gcd m n := hxy
      rw [Nat.gcd_zero_right] at this; rw [this]
    have := Fr.forget 1
    rw [e] at this
    exact this
abbrev s_common_multiple : Stmt := top 2
theorem sc_common_multiple : FnScope ["m", "n"] ["m", "n"] (defScope s_common_multiple) := ⟨rfl, rfl, rfl, by decide +kernel, rfl, by decide +kernel, by decide +kernel⟩
abbrev sp_common_multiple : Sp := SpF (α := Nat × Nat) (fun x => 0 < x.1 ∧ 0 < x.2 ∧ Lim x.1 ∧ Lim x.2) (fun x => [rI' (x.1 : Int), rI' (x.2 : Int)]) (fun x => rI' ((Nat.lcm x.1 x.2 : Nat) : Int))
theorem ok_common_multiple (T : At K mg "common_multiple" s_common_multiple ["m", "n"]) (C_common_divisor : Cal P w K mg base 33 "common_divisor" ["m", "n"] sp_common_divisor) (h_tree : P.given.tree = none) : Cal P w K mg base 34 "common_multiple" ["m", "n"] sp_common_multiple := by
  refine T.cal fun f fd F => fun_pure F sc_common_multiple (fun _ => rfl) fun cdv A outer s H E hr => ⟨_, (pss_one (ps_ret (pe_op op_mulK (pe_op (op_fdivP hr (by decide) (seen_cx sc_common_multiple h_tree)) (pv 0) (pe_cal C_common_divisor (hr.mono (by decide)) rfl (pa_cons (pv 0) (pa_cons (pv 1) pa_nil)))) (pv 1)))), ?_⟩
  rintro ⟨m, n⟩ ⟨hm, hn, bm, bn⟩
  have hm : 0 < m := hm
  have bm : Lim m := bm
  have bn : Lim n := bn
  have g0 : ((Int.gcd (m : Int) (n : Int) : Nat) : Int) ≠ 0 := by
    have : 0 < Nat.gcd m n := Nat.gcd_pos_of_pos_left n hm
    show ((Nat.gcd m n : Nat) : Int) ≠ 0
    omega
  refine dens_ret (den_eq (den_opC (den_opC (den_var rfl) (den_call ((m : Int), (n : Int)) (dena_cons (den_var rfl) (dena_cons (den_var rfl) dena_nil)) trivial) g0) (den_var rfl) (mulL (bm.le (fdiv_le m _)) bn.nat)) ?_)
  show rI' _ = rI' _
  rw [← lcm_eq m n hm]
abbrev s_lowest : Stmt := top 3
theorem sc_lowest : FnScope ["top", "bottom", "divisor"] ["top", "bottom"] (defScope s_lowest) := ⟨rfl, rfl, rfl, by decide +kernel, rfl, by decide +kernel, by decide +kernel⟩
abbrev sp_lowest : Sp := SpF (α := Int × Int) (fun x => x.2 ≠ 0) (fun x => [rI' x.1, rI' x.2]) (fun x => rQ ((x.1 : Rat) / (x.2 : Rat)))
theorem ok_lowest (T : At K mg "lowest" s_lowest ["top", "bottom"]) (C_common_divisor : Cal P w K mg base 33 "common_divisor" ["m", "n"] sp_common_divisor) (h_tree : P.given.tree = none) : Cal P w K mg base 34 "lowest" ["top", "bottom"] sp_lowest := by
  refine T.cal fun f fd F => fun_pure F sc_lowest (fun _ => rfl) fun cdv A outer s H E hr => ⟨_, (pss_cons (ps_set (i := 2) sc_lowest.nd rfl (by first | exact Or.inl rfl | exact Or.inr rfl) (pe_cal C_common_divisor (hr.mono (by decide)) rfl (pa_cons (pv 0) (pa_cons (pv 1) pa_nil))))
      (pss_cons (ps_if (pt_cmp (pc_lt (pv 1) pe_int)) (pss_one (ps_set (i := 2) sc_lowest.nd rfl (by first | exact Or.inl rfl | exact Or.inr rfl) (pe_un un_neg (pv 2)))) pss_nil)
      (pss_one (ps_ret (pe_tup (pa_cons (pe_op (op_fdivP hr (by decide) (seen_cx sc_lowest h_tree)) (pv 0) (pv 2)) (pa_cons (pe_op (op_fdivP hr (by decide) (seen_cx sc_lowest h_tree)) (pv 1) (pv 2)) pa_nil))))))), ?_⟩
  rintro ⟨t, b⟩ hb
  refine dens_seq (dens_set 2 (den_call (t, b) (dena_cons (den_var rfl) (dena_cons (den_var rfl) dena_nil)) trivial)) (dens_seq (ρ1 := [.sh (rI' t), .sh (rI' b), .sh (rI' (lowG t b))]) (dens_if (dent_B (den_cmp (den_var rfl) (den_c _))) (fun h => ?_) (fun h => ?_)) ?_)
  · refine dens_eq (dens_set 2 (den_un (den_var rfl))) ?_
    have : b < 0 := by simpa using h
    unfold lowG; rw [if_pos this]; rfl
  · refine dens_eq dens_next ?_
    have : ¬ b < 0 := by simpa using h
    unfold lowG; rw [if_neg this]; rfl
  · have hc := lowG_ne t b hb
    have := den_tup (dena_cons (den_opC (C := fun _ j => j ≠ 0) (g := fun i j => V.int (i.fdiv j)) (den_var (ρ := [.sh (rI' t), .sh (rI' b), .sh (rI' (lowG t b))]) (i := 0) rfl) (den_var (i := 2) rfl) hc) (dena_cons (den_opC (C := fun _ j => j ≠ 0) (g := fun i j => V.int (i.fdiv j)) (den_var (i := 1) rfl) (den_var (i := 2) rfl) hc) dena_nil))
    rw [(low_spec t b hb).1, (low_spec t b hb).2] at this
    exact dens_ret this
abbrev s_scale_of : Stmt := top 4
theorem sc_scale_of : FnScope ["row", "scale", "x"] ["row"] (defScope s_scale_of) := ⟨rfl, rfl, rfl, by decide +kernel, rfl, by decide +kernel, by decide +kernel⟩
abbrev sp_scale_of : Sp := SpF (α := Nat × (Nat → Rat)) (fun x => ∃ k, k * x.1 + 1 ≤ 40000000 ∧ k ≤ 40000000 ∧ ∀ i, i < x.1 → Bd k (x.2 i)) (fun x => [rRow ((List.range x.1).map x.2)]) (fun x => rI' ((scT x.2 x.1 : Nat) : Int))
theorem ok_scale_of (T : At K mg "scale_of" s_scale_of ["row"]) (C_common_multiple : Cal P w K mg base 34 "common_multiple" ["m", "n"] sp_common_multiple) : Cal P w K mg base 35 "scale_of" ["row"] sp_scale_of := by
  refine T.cal fun f fd F => fun_pure F sc_scale_of (fun _ => rfl) fun cdv A outer s H E hr => ⟨_, (pss_cons (ps_set (i := 1) sc_scale_of.nd rfl (by first | exact Or.inl rfl | exact Or.inr rfl) pe_int)
      (pss_cons (ps_for PassesOwn.never rfl (pi_list (pv 0)) (pg_name (i := 2) sc_scale_of.nd rfl (by first | exact Or.inl rfl | exact Or.inr rfl)) (pss_one (ps_set (i := 1) sc_scale_of.nd rfl (by first | exact Or.inl rfl | exact Or.inr rfl) (pe_cal C_common_multiple (hr.mono (by decide)) rfl (pa_cons (pv 1) (pa_cons (pe_ix (ix_seqK (K := K) rfl) (pv 2) pe_int (fun _ _ => rfl)) pa_nil))))))
      (pss_one (ps_ret (pv 1))))), ?_⟩
  rintro ⟨n, f'⟩ ⟨k, hk, hk2, hb⟩
  have hk : k * n + 1 ≤ 40000000 := hk
  have hb : ∀ i, i < n → Bd k (f' i) := hb
  refine dens_seq (dens_set 1 (den_c _)) (dens_seq (dens_for (vs := [2]) (fun i => [.sh (rRow ((List.range n).map f')), .sh (rI' ((scT f' i : Nat) : Int)), .no]) (deni_list (den_var rfl) (n := n) (by simp) (fun i hi => rowGet hi)) fun i hi => ⟨_, _, deng_name 2, dens_set 1 (den_call (scT f' i, (f' i).den) (dena_cons (den_var rfl) (dena_cons (den_den (den_var rfl)) dena_nil)) ⟨scT_pos _ _, Nat.pos_of_ne_zero (f' i).den_nz, ?_, ?_⟩), rfl⟩) (dens_ret (den_var rfl)))
  · refine Lim.mk (scT_bd f' k i fun j hj => (hb j (by omega)).2) ?_
    have : k * i ≤ k * n := Nat.mul_le_mul_left k (by omega)
    omega
  · exact Lim.mk (hb i hi).2 hk2
abbrev s_whole_row : Stmt := top 5
theorem sc_whole_row : FnScope ["row", "scale", "x"] ["row", "scale"] (defScope s_whole_row) := ⟨rfl, rfl, rfl, by decide +kernel, rfl, by decide +kernel, by decide +kernel⟩
abbrev sp_whole_row : Sp := SpF (α := Nat × (Nat → Rat) × Nat) (fun x => x.1 ≤ 1000 ∧ Lim x.2.2 ∧ ∀ i, i < x.1 → Lim (x.2.1 i).num.natAbs) (fun x => [rRow ((List.range x.1).map x.2.1), rI' (x.2.2 : Int)]) (fun x => rRowZ ((List.range x.1).map fun j => whZ x.2.1 x.2.2 j))
theorem ok_whole_row (T : At K mg "whole_row" s_whole_row ["row", "scale"]) (h_tree : P.given.tree = none) : Cal P w K mg base 33 "whole_row" ["row", "scale"] sp_whole_row := by
  refine T.cal fun f fd F => fun_pure F sc_whole_row (fun _ => rfl) fun cdv A outer s H E hr => ⟨_, (pss_one (ps_ret (pe_lc rfl sc_whole_row.nd (pi_list (pv 0)) (blkOk_by (N := ["row", "scale", "x"]) (sc := defScope s_whole_row) (own := [("x", 2)]) (by decide +kernel)) (fun _ _ _ _ _ => (pg_name (i := 2) sc_whole_row.nd rfl (by first | exact Or.inl rfl | exact Or.inr rfl))) (fun _ _ _ _ _ => pts_nil) (fun _ _ _ _ _ => (pe_op op_mulK (pe_ix (ix_seqK (K := K) rfl) (pv 2) pe_int (fun _ _ => rfl)) (pe_op (op_fdivP hr (by decide) (seen_cx sc_whole_row h_tree)) (pv 1) (pe_ix (ix_seqK (K := K) rfl) (pv 2) pe_int (fun _ _ => rfl)))))))), ?_⟩
  rintro ⟨n, f', s'⟩ ⟨hn, hs, hb⟩
  have hn : n ≤ 1000 := hn
  have hs : Lim s' := hs
  refine dens_ret (den_eq (den_of_F (denf_map (fun j => rI' (whZ f' s' j)) (deni_list (den_var rfl) (n := n) (by simp) (fun i hi => rowGet hi)) (Nat.le_trans hn (by decide)) fun i hi => ⟨_, deng_name 2, ?_⟩)) (rRowZ_make _ _).symm)
  exact den_opC (den_num (den_var rfl)) (den_opC (den_var rfl) (den_den (den_var rfl)) (by have := (f' i).den_nz; show ((f' i).den : Int) ≠ 0; omega)) (mulL (hb i hi) (hs.le (fdiv_le s' _)))
abbrev s_grown_row : Stmt := top 7
theorem sc_grown_row : FnScope ["row", "factor", "x"] ["row", "factor"] (defScope s_grown_row) := ⟨rfl, rfl, rfl, by decide +kernel, rfl, by decide +kernel, by decide +kernel⟩
abbrev sp_grown_row : Sp := SpF (α := List Int × Int) (fun x => x.1.length ≤ 1000 ∧ Lim x.2.natAbs ∧ ∀ k, Lim (coZ x.1 k).natAbs) (fun x => [rRowZ x.1, rI' x.2]) (fun x => rRowZ (growZ x.1 x.2))
theorem ok_grown_row (T : At K mg "grown_row" s_grown_row ["row", "factor"]) : Cal P w K mg base 33 "grown_row" ["row", "factor"] sp_grown_row := by
  refine T.cal fun f fd F => fun_pure F sc_grown_row (fun _ => rfl) fun cdv A outer s H E hr => ⟨_, (pss_one (ps_ret (pe_lc rfl sc_grown_row.nd (pi_list (pv 0)) (blkOk_by (N := ["row", "factor", "x"]) (sc := defScope s_grown_row) (own := [("x", 2)]) (by decide +kernel)) (fun _ _ _ _ _ => (pg_name (i := 2) sc_grown_row.nd rfl (by first | exact Or.inl rfl | exact Or.inr rfl))) (fun _ _ _ _ _ => pts_nil) (fun _ _ _ _ _ => (pe_op op_mulK (pv 2) (pv 1)))))), ?_⟩
  rintro ⟨f', c⟩ ⟨hl, hc, hb⟩
  have hl : f'.length ≤ 1000 := hl
  have hb : ∀ k, Lim (coZ f' k).natAbs := hb
  refine dens_ret (den_eq (den_of_F (denf_map (fun j => rI' (coZ f' j * c)) (deni_list (den_var rfl) (n := f'.length) (by simp) (fun i hi => intIx hi)) (Nat.le_trans hl (by decide)) fun i hi => ⟨_, deng_name 2, ?_⟩)) ?_)
  · exact den_opC (den_var rfl) (den_var rfl) (mulL (hb i) hc)
  · rw [← rRowZ_make]
    congr 1
    unfold growZ
    apply List.ext_getElem
    · simp
    · intro i h1 h2
      have hi : i < f'.length := by simpa using h2
      simp [coZ_at hi]
abbrev s_shrunk_row : Stmt := top 8
theorem sc_shrunk_row : FnScope ["row", "divisor", "x"] ["row", "divisor"] (defScope s_shrunk_row) := ⟨rfl, rfl, rfl, by decide +kernel, rfl, by decide +kernel, by decide +kernel⟩
abbrev sp_shrunk_row : Sp := SpF (α := Nat × (Nat → Int) × Int) (fun x => x.1 ≤ 1000 ∧ (x.1 ≠ 0 → x.2.2 ≠ 0)) (fun x => [rRowZ ((List.range x.1).map x.2.1), rI' x.2.2]) (fun x => rRowZ ((List.range x.1).map fun j => (x.2.1 j).fdiv x.2.2))
theorem ok_shrunk_row (T : At K mg "shrunk_row" s_shrunk_row ["row", "divisor"]) (h_tree : P.given.tree = none) : Cal P w K mg base 33 "shrunk_row" ["row", "divisor"] sp_shrunk_row := by
  refine T.cal fun f fd F => fun_pure F sc_shrunk_row (fun _ => rfl) fun cdv A outer s H E hr => ⟨_, (pss_one (ps_ret (pe_lc rfl sc_shrunk_row.nd (pi_list (pv 0)) (blkOk_by (N := ["row", "divisor", "x"]) (sc := defScope s_shrunk_row) (own := [("x", 2)]) (by decide +kernel)) (fun _ _ _ _ _ => (pg_name (i := 2) sc_shrunk_row.nd rfl (by first | exact Or.inl rfl | exact Or.inr rfl))) (fun _ _ _ _ _ => pts_nil) (fun _ _ _ _ _ => (pe_op (op_fdivP hr (by decide) (seen_cx sc_shrunk_row h_tree)) (pv 2) (pv 1)))))), ?_⟩
  rintro ⟨m, f', d⟩ ⟨hm, hd⟩
  have hm : m ≤ 1000 := hm
  refine dens_ret (den_eq (den_of_F (denf_map (fun j => rI' ((f' j).fdiv d)) (deni_list (item := fun j => rI' (f' j)) (n := m) (den_var rfl) (by simp) (fun j hj => by simp [hj])) (Nat.le_trans hm (by decide)) fun j hj => ⟨_, deng_name 2, ?_⟩)) (rRowZ_make _ _).symm)
  exact den_opC (den_var rfl) (den_var rfl) (hd (by show m ≠ 0; omega))
abbrev s_row_divisor : Stmt := top 9
theorem sc_row_divisor : FnScope ["row", "number", "result", "x"] ["row", "number"] (defScope s_row_divisor) := ⟨rfl, rfl, rfl, by decide +kernel, rfl, by decide +kernel, by decide +kernel⟩
abbrev sp_row_divisor : Sp := SpF (α := List Int × Int) (fun _ => True) (fun x => [rRowZ x.1, rI' x.2]) (fun x => rI' (rdv x.1 x.2))
theorem ok_row_divisor (T : At K mg "row_divisor" s_row_divisor ["row", "number"]) (C_common_divisor : Cal P w K mg base 33 "common_divisor" ["m", "n"] sp_common_divisor) : Cal P w K mg base 34 "row_divisor" ["row", "number"] sp_row_divisor := by
  refine T.cal fun f fd F => fun_pure F sc_row_divisor (fun _ => rfl) fun cdv A outer s H E hr => ⟨_, (pss_cons (ps_set (i := 2) sc_row_divisor.nd rfl (by first | exact Or.inl rfl | exact Or.inr rfl) (pv 1))
      (pss_cons (ps_for PassesOwn.never rfl (pi_list (pv 0)) (pg_name (i := 3) sc_row_divisor.nd rfl (by first | exact Or.inl rfl | exact Or.inr rfl)) (pss_one (ps_set (i := 2) sc_row_divisor.nd rfl (by first | exact Or.inl rfl | exact Or.inr rfl) (pe_cal C_common_divisor (hr.mono (by decide)) rfl (pa_cons (pv 3) (pa_cons (pv 2) pa_nil))))))
      (pss_one (ps_ret (pv 2))))), ?_⟩
  rintro ⟨f', n⟩ -
  exact dens_seq (dens_set 2 (den_var rfl)) (dens_seq (dens_for (vs := [3]) (n := f'.length) (fun i => [.sh (rRowZ f'), .sh (rI' n), .sh (rI' (rdvTo f' n i)), .no]) (deni_list (den_var rfl) (by simp) (fun i hi => intIx hi)) fun i hi => ⟨_, _, deng_name 3, dens_set 2 (den_call (coZ f' i, rdvTo f' n i) (dena_cons (den_var rfl) (dena_cons (den_var rfl) dena_nil)) trivial), rfl⟩) (dens_ret (den_var rfl)))
abbrev s_trimmed : Stmt := top 13
theorem sc_trimmed : FnScope ["whole", "size"] ["whole"] (defScope s_trimmed) := ⟨rfl, rfl, rfl, by decide +kernel, rfl, by decide +kernel, by decide +kernel⟩
abbrev sp_trimmed : Sp := SpF (α := List Int) (fun x => x.length ≤ 1000) (fun x => [rRowZ x]) (fun x => rRowZ (trimZ x))
theorem ok_trimmed (T : At K mg "trimmed" s_trimmed ["whole"]) (h_len : mg "len" = none) : Cal P w K mg base 33 "trimmed" ["whole"] sp_trimmed := by
  refine T.cal fun f fd F => fun_pure F sc_trimmed (fun _ => rfl) fun cdv A outer s H E hr => ⟨_, (pss_cons (ps_set (i := 1) sc_trimmed.nd rfl (by first | exact Or.inl rfl | exact Or.inr rfl) (pe_callB (call_lenK (K := K) rfl) rfl h_len PySem.boot_len (pa_cons (pv 0) pa_nil)))
      (pss_cons (ps_while PassesOwn.never (PW.pt (pw_and (pt_cmp (pc_gt (pv 1) pe_int)) (pw_and1 (pt_cmp (pc_eqI (pe_ix (ix_seqK (K := K) rfl) (pv 0) (pe_op op_sub (pv 1) pe_int) (fun _ _ => rfl)) pe_int))))) (pss_one (ps_aug (i := 1) sc_trimmed.nd rfl (by first | exact Or.inl rfl | exact Or.inr rfl) pe_int ip_sub)))
      (pss_one (ps_ret (pe_slice (sl_listK (K := K) rfl) (pv 0) po_none (po_some (pv 1))))))), ?_⟩
  intro f' hl
  have hl : f'.length ≤ 1000 := hl
  refine dens_seq (dens_set 1 (den_eq (den_lenL (den_var rfl)) (by rw [List.length_map]))) (dens_seq (ρ1 := [.sh (rRowZ f'), .sh (rI' ((tsz f' f'.length : Nat) : Int))]) (dens_while (α := Nat) (fun k => [.sh (rRowZ f'), .sh (rI' (k : Int))]) (fun k => k ≤ f'.length ∧ tsz f' k = tsz f' f'.length) (fun k => k) f'.length ⟨Nat.le_refl _, rfl⟩ ?_) (dens_ret (den_eq (den_of_F (denf_upto (den_var rfl) (den_var rfl))) ?_)))
  · rintro k ⟨h1, h2⟩
    refine ⟨decide (0 < k) && decide (coZ f' (k - 1) = 0), dent_and (dent_eq (dent_B (den_cmp (p := fun i j => decide (j < i)) (den_var (i := 1) rfl) (den_c (.int 0)))) (decide_eq_decide.mpr (by omega))) (fun h => ?_), fun h => ?_, fun h => ?_⟩
    · have h : 0 < k := of_decide_eq_true h
      exact dent_eq (dent_B (den_cmp (p := fun i j => decide (i = j)) (den_ixL (den_var rfl) (den_opI (den_var rfl) (den_c (.int 1))) (by show (0 : Int) ≤ (k : Int) - 1; omega) (by rw [show ((k : Int) - 1).toNat = k - 1 by omega]; exact intIx (by omega))) (den_c _))) rfl
    · simp only [Bool.and_eq_true, decide_eq_true_eq] at h
      refine ⟨k - 1, _, dens_aug (f := fun i j => i - j) rfl (den_c (.int 1)), fun G0 H0 G H σ F => ?_, ⟨by omega, ?_⟩, by omega⟩
      · have e : ((k : Int) - 1) = ((k - 1 : Nat) : Int) := by omega
        rw [← e]; exact F
      · rw [← h2]
        obtain ⟨t, rfl⟩ : ∃ t, k = t + 1 := ⟨k - 1, by omega⟩
        show tsz f' t = if coZ f' t = 0 then tsz f' t else t + 1
        have h3 : coZ f' t = 0 := h.2
        rw [if_pos h3]
    · intro G0 H0 G H σ F
      have e : k = tsz f' f'.length := by
        rw [← h2]
        simp only [Bool.and_eq_false_iff, decide_eq_false_iff_not] at h
        cases k with
        | zero => rfl
        | succ t =>
          show t + 1 = if coZ f' t = 0 then tsz f' t else t + 1
          rcases h with h | h
          · omega
          · have h : ¬ coZ f' t = 0 := h
            rw [if_neg h]
      rw [← e]; exact F
  · unfold rRowZ trimZ
    rw [List.map_take]
abbrev s_coefficient : Stmt := top 14
theorem sc_coefficient : FnScope ["whole", "k"] ["whole", "k"] (defScope s_coefficient) := ⟨rfl, rfl, rfl, by decide +kernel, rfl, by decide +kernel, by decide +kernel⟩
abbrev sp_coefficient : Sp := SpF (α := List Int × Nat) (fun _ => True) (fun x => [rRowZ x.1, rI' (x.2 : Int)]) (fun x => rI' (coZ x.1 x.2))
theorem ok_coefficient (T : At K mg "coefficient" s_coefficient ["whole", "k"]) (h_len : mg "len" = none) : Cal P w K mg base 33 "coefficient" ["whole", "k"] sp_coefficient := by
  refine T.cal fun f fd F => fun_pure F sc_coefficient (fun _ => rfl) fun cdv A outer s H E hr => ⟨_, (pss_one (ps_ret (pe_ifExp (pt_cmp (pc_lt (pv 1) (pe_callB (call_lenK (K := K) rfl) rfl h_len PySem.boot_len (pa_cons (pv 0) pa_nil)))) (pe_ix (ix_seqK (K := K) rfl) (pv 0) (pv 1) (fun _ _ => rfl)) pe_int))), ?_⟩
  rintro ⟨f', k⟩ -
  dsimp only
  refine dens_ret (den_if (b := decide (k < f'.length)) (dent_eq (dent_B (den_cmp (den_var rfl) (den_lenL (den_var rfl)))) (by rw [List.length_map]; exact decide_eq_decide.mpr (by omega))) (fun h => ?_) (fun h => ?_))
  · exact den_ixL (den_var rfl) (den_var rfl) (by show (0 : Int) ≤ (k : Int); omega) (by rw [Int.toNat_natCast]; exact intIx (of_decide_eq_true h))
  · have h := of_decide_eq_false h
    rw [coZ_out (by omega)]
    exact den_c _
abbrev s_whole_sum : Stmt := top 15
theorem sc_whole_sum : FnScope ["f", "g", "k"] ["f", "g"] (defScope s_whole_sum) := ⟨rfl, rfl, rfl, by decide +kernel, rfl, by decide +kernel, by decide +kernel⟩
abbrev sp_whole_sum : Sp := SpF (α := List Int × List Int) (fun x => x.1.length ≤ 1000 ∧ x.2.length ≤ 1000) (fun x => [rRowZ x.1, rRowZ x.2]) (fun x => rRowZ (sumZ x.1 x.2))
theorem ok_whole_sum (T : At K mg "whole_sum" s_whole_sum ["f", "g"]) (C_trimmed : Cal P w K mg base 33 "trimmed" ["whole"] sp_trimmed) (C_coefficient : Cal P w K mg base 33 "coefficient" ["whole", "k"] sp_coefficient) (h_range : mg "range" = none) (h_max : mg "max" = none) (h_len : mg "len" = none) : Cal P w K mg base 34 "whole_sum" ["f", "g"] sp_whole_sum := by
  refine T.cal fun f fd F => fun_pure F sc_whole_sum (fun _ => rfl) fun cdv A outer s H E hr => ⟨_, (pss_one (ps_ret (pe_cal C_trimmed (hr.mono (by decide)) rfl (pa_cons (pe_lc rfl sc_whole_sum.nd (pi_range1 rfl h_range (pa_cons (pe_callB (call_max2 rfl) rfl h_max boot_max1 (pa_cons (pe_callB (call_lenK (K := K) rfl) rfl h_len PySem.boot_len (pa_cons (pv 0) pa_nil)) (pa_cons (pe_callB (call_lenK (K := K) rfl) rfl h_len PySem.boot_len (pa_cons (pv 1) pa_nil)) pa_nil))) pa_nil)) (blkOk_by (N := ["f", "g", "k"]) (sc := defScope s_whole_sum) (own := [("k", 2)]) (by decide +kernel)) (fun _ _ _ _ _ => (pg_name (i := 2) sc_whole_sum.nd rfl (by first | exact Or.inl rfl | exact Or.inr rfl))) (fun _ _ _ _ _ => pts_nil) (fun _ _ _ _ _ => (pe_op op_add (pe_cal C_coefficient (hr.mono (by decide)) rfl (pa_cons (pv 0) (pa_cons (pv 2) pa_nil))) (pe_cal C_coefficient (hr.mono (by decide)) rfl (pa_cons (pv 1) (pa_cons (pv 2) pa_nil)))))) pa_nil)))), ?_⟩
  rintro ⟨f', g'⟩ ⟨h1, h2⟩
  have h1 : f'.length ≤ 1000 := h1
  have h2 : g'.length ≤ 1000 := h2
  have em : (max ((f'.map rI').length : Int) ((g'.map rI').length : Int)).toNat = max f'.length g'.length := by
    rw [List.length_map, List.length_map]; omega
  refine dens_ret (den_call ((List.range (max f'.length g'.length)).map fun k => coZ f' k + coZ g' k) (dena_cons (den_eq (den_of_F (denf_map (n := max f'.length g'.length) (fun k => rI' (coZ f' k + coZ g' k)) (item := fun k => rI' ((k : Nat) : Int)) ?_ (Nat.le_trans (show max f'.length g'.length ≤ 1000 by omega) (by decide)) fun k hk => ⟨_, deng_name 2, ?_⟩)) (rRowZ_make _ _).symm) dena_nil) (by simp; omega))
  · have q := deni_rng1 (ρ := rho0 ["f", "g", "k"] [rRowZ f', rRowZ g']) (dena_cons (den_max (den_lenL (K := K) (den_var (i := 0) rfl)) (den_lenL (K := K) (den_var (i := 1) rfl))) dena_nil) (by rw [List.length_map, List.length_map]; omega) (by rw [List.length_map, List.length_map]; omega)
    rw [em] at q
    exact q
  · exact den_opI (den_call (f', k) (dena_cons (den_var rfl) (dena_cons (den_var rfl) dena_nil)) trivial) (den_call (g', k) (dena_cons (den_var rfl) (dena_cons (den_var rfl) dena_nil)) trivial)
abbrev s_whole_multiplied : Stmt := top 16
theorem sc_whole_multiplied : FnScope ["f", "g", "result", "k", "x"] ["f", "g"] (defScope s_whole_multiplied) := ⟨rfl, rfl, rfl, by decide +kernel, rfl, by decide +kernel, by decide +kernel⟩
abbrev sp_whole_multiplied : Sp := SpF (α := (List Int × List Int) × Nat × Nat) (fun x => x.1.1.length ≤ 100 ∧ x.1.2.length ≤ 100 ∧ BZ x.2.1 x.1.1 ∧ BZ x.2.2 x.1.2 ∧ x.2.1 ≤ 30000000 ∧ x.2.2 ≤ 30000000) (fun x => [rRowZ x.1.1, rRowZ x.1.2]) (fun x => rRowZ (mulZ x.1.1 x.1.2))
theorem ok_whole_multiplied (T : At K mg "whole_multiplied" s_whole_multiplied ["f", "g"]) (C_whole_sum : Cal P w K mg base 34 "whole_sum" ["f", "g"] sp_whole_sum) (C_grown_row : Cal P w K mg base 33 "grown_row" ["row", "factor"] sp_grown_row) (h_enumerate : mg "enumerate" = none) : Cal P w K mg base 35 "whole_multiplied" ["f", "g"] sp_whole_multiplied := by
  refine T.cal fun f fd F => fun_pure F sc_whole_multiplied (fun _ => rfl) fun cdv A outer s H E hr => ⟨_, (pss_cons (ps_set (i := 2) sc_whole_multiplied.nd rfl (by first | exact Or.inl rfl | exact Or.inr rfl) (pe_lst pa_nil))
      (pss_cons (ps_for PassesOwn.never rfl (pi_enum rfl h_enumerate (pa_cons (pv 0) pa_nil)) (pg_tupK (K := K) (n := 2) rfl rfl (pgs_cons (pg_name (i := 3) sc_whole_multiplied.nd rfl (by first | exact Or.inl rfl | exact Or.inr rfl)) (pgs_cons (pg_name (i := 4) sc_whole_multiplied.nd rfl (by first | exact Or.inl rfl | exact Or.inr rfl)) pgs_nil))) (pss_one (ps_set (i := 2) sc_whole_multiplied.nd rfl (by first | exact Or.inl rfl | exact Or.inr rfl) (pe_cal C_whole_sum (hr.mono (by decide)) rfl (pa_cons (pv 2) (pa_cons (pe_op op_cat (pe_op op_rep (pe_lst (pa_cons pe_int pa_nil)) (pv 3)) (pe_cal C_grown_row (hr.mono (by decide)) rfl (pa_cons (pv 1) (pa_cons (pv 4) pa_nil)))) pa_nil))))))
      (pss_one (ps_ret (pv 2))))), ?_⟩
  rintro ⟨⟨f', g'⟩, m, n⟩ ⟨h1, h2, b1, b2, hm, hn⟩
  have h1 : f'.length ≤ 100 := h1
  have h2 : g'.length ≤ 100 := h2
  have b1 : BZ m f' := b1
  have b2 : BZ n g' := b2
  have hm : m ≤ 30000000 := hm
  have hn : n ≤ 30000000 := hn
  refine dens_seq (dens_set 2 (p := rRowZ []) (den_of_F (denf_lst (ps := []) dena_nil))) (dens_seq (dens_for (vs := [3, 4]) (n := f'.length) (fun i => [.sh (rRowZ f'), .sh (rRowZ g'), .sh (rRowZ (mulTo f' g' i)), .no, .no]) (deni_enum (den_var rfl) (by simp) (fun i hi => intIx hi)) fun i hi => ⟨_, _, deng_pair 3 4, dens_set 2 (den_call (mulTo f' g' i, shZ i (growZ g' (coZ f' i))) (dena_cons (den_var rfl) (dena_cons (den_eq (den_of_F (denf_cat (ps := (List.replicate i [rI' 0]).flatten) (qs := (growZ g' (coZ f' i)).map rI') (den_eq (den_of_F (denf_rep (ps := [rI' 0]) (n := (i : Int)) (den_of_F (denf_lst (dena_cons (den_c _) dena_nil))) (den_var rfl) (by omega) (by omega) ?_)) (by rw [Int.toNat_natCast])) (den_call (g', coZ f' i) (dena_cons (den_var rfl) (dena_cons (den_var rfl) dena_nil)) ⟨by show g'.length ≤ 1000; omega, Lim.mk (b1 i) (by omega), fun k => Lim.mk (b2 k) (by omega)⟩) ?_)) ?_) dena_nil)) ⟨?_, ?_⟩), rfl⟩) (dens_ret (den_var rfl)))
  · rw [Int.toNat_natCast]; exact Nat.le_trans (show [rI' 0].length * i ≤ 1000 by simp; omega) (by decide)
  · rw [rep_zero, List.length_map, List.length_map, List.length_replicate, growZ_len]; exact Nat.le_trans (show i + g'.length ≤ 1000 by omega) (by decide)
  · unfold rRowZ shZ; rw [rep_zero, List.map_append]
  · have := mulTo_len f' g' i
    show (mulTo f' g' i).length ≤ 1000
    omega
  · show (shZ i (growZ g' (coZ f' i))).length ≤ 1000
    rw [shZ_len, growZ_len]; omega
abbrev s_divided : Stmt := top 17
theorem sc_divided : FnScope ["f", "g", "lead", "quotient", "rest", "scale", "shift", "head"] ["f", "g"] (defScope s_divided) := ⟨rfl, rfl, rfl, by decide +kernel, rfl, by decide +kernel, by decide +kernel⟩
def rDV (C : Addr) (t : DV) : Rp := rIns C [("quotient", rRowZ t.q), ("rest", rRowZ t.r), ("scale", rI' t.s)]
abbrev sp_divided (C : Addr) /-C:Division-/ : Sp := SpF (α := (List Int × List Int) × Nat × Nat) (fun x => x.1.1.length ≤ 100 ∧ x.1.2.length ≤ 100 ∧ x.1.2 ≠ [] ∧ BZ x.2.1 x.1.1 ∧ BZ x.2.2 x.1.2 ∧ x.2.1 + (x.1.1.length + 1 - x.1.2.length) * (x.2.2 + 1) ≤ 35000000 ∧ x.2.2 ≤ 35000000) (fun x => [rRowZ x.1.1, rRowZ x.1.2]) (fun x => rDV C (divZ x.1.1 x.1.2))
theorem ok_divided (T : At K mg "divided" s_divided ["f", "g"]) (C_coefficient : Cal P w K mg base 33 "coefficient" ["whole", "k"] sp_coefficient) (C_whole_sum : Cal P w K mg base 34 "whole_sum" ["f", "g"] sp_whole_sum) (C_grown_row : Cal P w K mg base 33 "grown_row" ["row", "factor"] sp_grown_row) (h_abs : mg "abs" = none) (h_range : mg "range" = none) (h_len : mg "len" = none) (c_Division : KlsDivision P w K mg base CDivision) : Cal P w K mg base 35 "divided" ["f", "g"] (sp_divided CDivision) := by
  refine T.cal fun f fd F => fun_pure F sc_divided (fun _ => rfl) fun cdv A outer s H E hr => ⟨_, (pss_cons (ps_set (i := 2) sc_divided.nd rfl (by first | exact Or.inl rfl | exact Or.inr rfl) (pe_callB call_abs rfl h_abs boot_abs (pa_cons (pe_ix (ix_seqK (K := K) rfl) (pv 1) (pe_un un_neg pe_int) (fun _ _ => rfl)) pa_nil)))
      (pss_cons (ps_set (i := 3) sc_divided.nd rfl (by first | exact Or.inl rfl | exact Or.inr rfl) (pe_lst pa_nil))
      (pss_cons (ps_set (i := 4) sc_divided.nd rfl (by first | exact Or.inl rfl | exact Or.inr rfl) (pv 0))
      (pss_cons (ps_set (i := 5) sc_divided.nd rfl (by first | exact Or.inl rfl | exact Or.inr rfl) pe_int)
      (pss_cons (ps_for PassesOwn.never rfl (pi_range3 rfl h_range (pa_cons (pe_op op_sub (pe_callB (call_lenK (K := K) rfl) rfl h_len PySem.boot_len (pa_cons (pv 0) pa_nil)) (pe_callB (call_lenK (K := K) rfl) rfl h_len PySem.boot_len (pa_cons (pv 1) pa_nil))) (pa_cons (pe_un un_neg pe_int) (pa_cons (pe_un un_neg pe_int) pa_nil)))) (pg_name (i := 6) sc_divided.nd rfl (by first | exact Or.inl rfl | exact Or.inr rfl)) (pss_cons (ps_set (i := 7) sc_divided.nd rfl (by first | exact Or.inl rfl | exact Or.inr rfl) (pe_cal C_coefficient (hr.mono (by decide)) rfl (pa_cons (pv 4) (pa_cons (pe_op op_sub (pe_op op_add (pv 6) (pe_callB (call_lenK (K := K) rfl) rfl h_len PySem.boot_len (pa_cons (pv 1) pa_nil))) pe_int) pa_nil))))
      (pss_cons (ps_if (pt_cmp (pc_lt (pe_ix (ix_seqK (K := K) rfl) (pv 1) (pe_un un_neg pe_int) (fun _ _ => rfl)) pe_int)) (pss_one (ps_set (i := 7) sc_divided.nd rfl (by first | exact Or.inl rfl | exact Or.inr rfl) (pe_un un_neg (pv 7)))) pss_nil)
      (pss_cons (ps_set (i := 4) sc_divided.nd rfl (by first | exact Or.inl rfl | exact Or.inr rfl) (pe_cal C_whole_sum (hr.mono (by decide)) rfl (pa_cons (pe_cal C_grown_row (hr.mono (by decide)) rfl (pa_cons (pv 4) (pa_cons (pv 2) pa_nil))) (pa_cons (pe_op op_cat (pe_op op_rep (pe_lst (pa_cons pe_int pa_nil)) (pv 6)) (pe_cal C_grown_row (hr.mono (by decide)) rfl (pa_cons (pv 1) (pa_cons (pe_un un_neg (pv 7)) pa_nil)))) pa_nil))))
      (pss_cons (ps_set (i := 3) sc_divided.nd rfl (by first | exact Or.inl rfl | exact Or.inr rfl) (pe_op op_cat (pe_lst (pa_cons (pv 7) pa_nil)) (pe_cal C_grown_row (hr.mono (by decide)) rfl (pa_cons (pv 3) (pa_cons (pv 2) pa_nil)))))
      (pss_one (ps_set (i := 5) sc_divided.nd rfl (by first | exact Or.inl rfl | exact Or.inr rfl) (pe_op op_mulK (pv 5) (pv 2)))))))))
      (pss_one (ps_ret (pe_make_Division c_Division (hr.mono (by decide)) rfl (pa_cons (pv 3) (pa_cons (pv 4) (pa_cons (pv 5) pa_nil))))))))))), ?_⟩
  rintro ⟨⟨f', g'⟩, m, n⟩ ⟨h1, h2, ng, b1, b2, hm, hn⟩
  have h1 : f'.length ≤ 100 := h1
  have h2 : g'.length ≤ 100 := h2
  have ng : g' ≠ [] := ng
  have b1 : BZ m f' := b1
  have b2 : BZ n g' := b2
  have hm : m + (f'.length + 1 - g'.length) * (n + 1) ≤ 35000000 := hm
  have hn : n ≤ 35000000 := hn
  have gl : 0 < g'.length := List.length_pos_iff.mpr ng
  dsimp only
  unfold divZ
  generalize hN : f'.length + 1 - g'.length = N at hm
  refine dens_seq (dens_set 2 (p := rI' ((coZ g' (g'.length - 1)).natAbs : Int)) (den_eq (den_abs (den_lastZ (den_var rfl) (den_un (den_c _)) ng)) (by rw [abs_if]; rfl))) (dens_seq (dens_set 3 (p := rRowZ []) (den_of_F (denf_lst (ps := []) dena_nil))) (dens_seq (dens_set 4 (den_var rfl)) (dens_seq (dens_set 5 (den_c _)) ?_)))
  refine dens_seq (dens_for (vs := [6]) (n := N) (item := fun i => rI' ((f'.length : Int) - (g'.length : Int) + (i : Int) * (-1))) (fun i => [.sh (rRowZ f'), .sh (rRowZ g'), .sh (rI' ((coZ g' (g'.length - 1)).natAbs : Int)), .sh (rRowZ (dvTo f' g' N i).q), .sh (rRowZ (dvTo f' g' N i).r), .sh (rI' (dvTo f' g' N i).s), .no, .no]) ?_ fun i hi => ?_) ?_
  · refine deni_rng3 (dena_cons (den_eq (den_opI (den_lenL (den_var rfl)) (den_lenL (den_var rfl))) (by rw [List.length_map, List.length_map])) (dena_cons (den_un (den_c _)) (dena_cons (den_un (den_c _)) dena_nil))) ?_
    have q := RgC.neg (i := (f'.length : Int) - (g'.length : Int)) (j := -1) (by omega) (by omega) (by omega) (by omega)
    rw [show ((f'.length : Int) - (g'.length : Int) - -1).toNat = N by omega] at q
    exact q
  · have br := dv_bd b1 b2 N i
    have bq := dv_bq b1 b2 N i
    have bs := dv_bs (f := f') b2 N i
    have lr := dv_len (f := f') (g := g') N i
    have lq := dv_qlen (f := f') (g := g') N i
    have hi2 : m + i * (n + 1) ≤ 35000000 := by
      have : i * (n + 1) ≤ N * (n + 1) := Nat.mul_le_mul_right _ (by omega)
      omega
    have hi3 : i * n + 1 ≤ 40000000 := by
      rw [Nat.mul_add, Nat.mul_one] at hi2; omega
    show ∃ ρ' ρ'', DenG _ _ _ _ ρ' ∧ DenS _ ρ' (Out.nx ρ'') ∧ forgetR ρ'' [6] = [_, _, _, Slot.sh (rRowZ (dvStep g' (dvTo f' g' N i) (N - 1 - i)).q), Slot.sh (rRowZ (dvStep g' (dvTo f' g' N i) (N - 1 - i)).r), Slot.sh (rI' (dvStep g' (dvTo f' g' N i) (N - 1 - i)).s), _, _]
    generalize dvTo f' g' N i = t at br bq bs lr lq ⊢
    have esh : (f'.length : Int) - (g'.length : Int) + (i : Int) * (-1) = ((N - 1 - i : Nat) : Int) := by omega
    have lL : Lim (((coZ g' (g'.length - 1)).natAbs : Int)).natAbs := by rw [Int.natAbs_natCast]; exact Lim.mk (b2 _) (by omega)
    unfold dvStep
    dsimp only
    rw [esh]
    generalize hh : (if coZ g' (g'.length - 1) < 0 then -(coZ t.r (N - 1 - i + g'.length - 1)) else coZ t.r (N - 1 - i + g'.length - 1)) = h
    have hL : Lim h.natAbs := by
      have := br (N - 1 - i + g'.length - 1)
      rw [← hh]
      refine Lim.mk (k := m + i * (n + 1)) ?_ (by omega)
      split <;> omega
    have hLn : Lim (-h).natAbs := by rw [Int.natAbs_neg]; exact hL
    refine ⟨_, _, deng_name 6, dens_drop 7 (dens_seq (dens_set 7 (p := rI' (coZ t.r (N - 1 - i + g'.length - 1))) (den_call (t.r, N - 1 - i + g'.length - 1) (dena_cons (den_var rfl) (dena_cons (den_eq (den_opI (den_opI (den_var rfl) (den_lenL (den_var rfl))) (den_c (.int 1))) ?_) dena_nil)) trivial)) (dens_seq (ρ1 := [.sh (rRowZ f'), .sh (rRowZ g'), .sh (rI' ((coZ g' (g'.length - 1)).natAbs : Int)), .sh (rRowZ t.q), .sh (rRowZ t.r), .sh (rI' t.s), .sh (rI' ((N - 1 - i : Nat) : Int)), .sh (rI' h)]) (dens_if (b := decide (coZ g' (g'.length - 1) < 0)) (dent_B (den_cmp (den_lastZ (den_var rfl) (den_un (den_c _)) ng) (den_c _))) (fun hc => ?_) (fun hc => ?_)) (dens_seq (dens_set 4 (den_call (growZ t.r ((coZ g' (g'.length - 1)).natAbs : Int), shZ (N - 1 - i) (growZ g' (-h))) (dena_cons (den_call (t.r, ((coZ g' (g'.length - 1)).natAbs : Int)) (dena_cons (den_var rfl) (dena_cons (den_var rfl) dena_nil)) ⟨by show t.r.length ≤ 1000; omega, lL, fun k => Lim.mk (br k) (by omega)⟩) (dena_cons (den_eq (den_of_F (denf_cat (ps := (List.replicate (N - 1 - i) [rI' 0]).flatten) (qs := (growZ g' (-h)).map rI') (den_eq (den_of_F (denf_rep (ps := [rI' 0]) (n := ((N - 1 - i : Nat) : Int)) (den_of_F (denf_lst (dena_cons (den_c _) dena_nil))) (den_var rfl) (by omega) (by omega) ?_)) (by rw [Int.toNat_natCast])) (den_call (g', -h) (dena_cons (den_var rfl) (dena_cons (den_un (den_var rfl)) dena_nil)) ⟨by show g'.length ≤ 1000; omega, hLn, fun k => Lim.mk (b2 k) (by omega)⟩) ?_)) ?_) dena_nil)) ⟨?_, ?_⟩)) (dens_seq (dens_set 3 (den_eq (den_of_F (denf_cat (ps := [rI' h]) (qs := (growZ t.q ((coZ g' (g'.length - 1)).natAbs : Int)).map rI') (den_of_F (denf_lst (dena_cons (den_var rfl) dena_nil))) (den_call (t.q, ((coZ g' (g'.length - 1)).natAbs : Int)) (dena_cons (den_var rfl) (dena_cons (den_var rfl) dena_nil)) ⟨by show t.q.length ≤ 1000; omega, lL, fun k => Lim.mk (bq k) (by omega)⟩) ?_)) ?_)) (dens_set 5 (den_opC (den_var rfl) (den_var rfl) (mulL (Lim.mk bs hi3) lL))))))), rfl⟩
    · show rI' (((N - 1 - i : Nat) : Int) + ((g'.map rI').length : Int) - 1) = _
      rw [List.length_map]
      congr 1
      omega
    · have hc := of_decide_eq_true hc
      refine dens_eq (dens_set 7 (den_un (den_var rfl))) ?_
      rw [← hh, if_pos hc]; rfl
    · have hc := of_decide_eq_false hc
      refine dens_eq dens_next ?_
      rw [← hh, if_neg hc]; rfl
    · rw [Int.toNat_natCast]; exact Nat.le_trans (show [rI' 0].length * (N - 1 - i) ≤ 1000 by simp; omega) (by decide)
    · rw [rep_zero, List.length_map, List.length_map, List.length_replicate, growZ_len]; exact Nat.le_trans (show (N - 1 - i) + g'.length ≤ 1000 by omega) (by decide)
    · unfold rRowZ shZ; rw [rep_zero, List.map_append]
    · show (growZ t.r _).length ≤ 1000
      rw [growZ_len]; omega
    · show (shZ _ (growZ g' _)).length ≤ 1000
      rw [shZ_len, growZ_len]; omega
    · rw [List.length_map, growZ_len]; exact Nat.le_trans (show 1 + t.q.length ≤ 1000 by omega) (by decide)
    · unfold rRowZ; rw [List.map_append]; rfl
  · exact dens_ret (den_make3 (dena_cons (den_var rfl) (dena_cons (den_var rfl) (dena_cons (den_var rfl) dena_nil))) (by decide) (by decide) (by decide))
abbrev s_without_content : Stmt := top 18
theorem sc_without_content : FnScope ["whole"] ["whole"] (defScope s_without_content) := ⟨rfl, rfl, rfl, by decide +kernel, rfl, by decide +kernel, by decide +kernel⟩
abbrev sp_without_content : Sp := SpF (α := List Int) (fun x => x.length ≤ 1000 ∧ TrZ x) (fun x => [rRowZ x]) (fun x => rRowZ (contZ x))
theorem ok_without_content (T : At K mg "without_content" s_without_content ["whole"]) (C_shrunk_row : Cal P w K mg base 33 "shrunk_row" ["row", "divisor"] sp_shrunk_row) (C_row_divisor : Cal P w K mg base 34 "row_divisor" ["row", "number"] sp_row_divisor) : Cal P w K mg base 35 "without_content" ["whole"] sp_without_content := by
  refine T.cal fun f fd F => fun_pure F sc_without_content (fun _ => rfl) fun cdv A outer s H E hr => ⟨_, (pss_one (ps_ret (pe_cal C_shrunk_row (hr.mono (by decide)) rfl (pa_cons (pv 0) (pa_cons (pe_cal C_row_divisor (hr.mono (by decide)) rfl (pa_cons (pv 0) (pa_cons pe_int pa_nil))) pa_nil))))), ?_⟩
  rintro f' ⟨hl, ht⟩
  have hl : f'.length ≤ 1000 := hl
  have e : f' = (List.range f'.length).map (coZ f') := by
    apply List.ext_getElem
    · simp
    · intro i h1 h2; simp [coZ_at h1]
  refine dens_ret (den_call (f'.length, coZ f', rdv f' 0) (dena_cons (den_eq (den_var rfl) (by rw [← e])) (dena_cons (den_call (f', 0) (dena_cons (den_var rfl) (dena_cons (den_c _) dena_nil)) trivial) dena_nil)) ⟨hl, fun h => rdv_ne ht fun z => h (by rw [z]; rfl)⟩)
abbrev s_polynomial_from : Stmt := top 19
theorem sc_polynomial_from : FnScope ["row", "scale"] ["row"] (defScope s_polynomial_from) := ⟨rfl, rfl, rfl, by decide +kernel, rfl, by decide +kernel, by decide +kernel⟩
def rPl (C : Addr) (w : List Int) (s : Int) : Rp := rIns C [("whole", rRowZ w), ("scale", rI' s)]
abbrev sp_polynomial_from (C : Addr) /-C:Polynomial-/ : Sp := SpF (α := Nat × (Nat → Rat)) (fun x => x.1 ≤ 9 ∧ ∀ i, i < x.1 → Bd 133 (x.2 i)) (fun x => [rRow ((List.range x.1).map x.2)]) (fun x => rPl C (wP x.1 x.2) ((scT x.2 x.1 : Nat) : Int))
theorem ok_polynomial_from (T : At K mg "polynomial_from" s_polynomial_from ["row"]) (C_scale_of : Cal P w K mg base 35 "scale_of" ["row"] sp_scale_of) (C_trimmed : Cal P w K mg base 33 "trimmed" ["whole"] sp_trimmed) (C_whole_row : Cal P w K mg base 33 "whole_row" ["row", "scale"] sp_whole_row) (c_Polynomial : KlsPolynomial P w K mg base CPolynomial) : Cal P w K mg base 36 "polynomial_from" ["row"] (sp_polynomial_from CPolynomial) := by
  refine T.cal fun f fd F => fun_pure F sc_polynomial_from (fun _ => rfl) fun cdv A outer s H E hr => ⟨_, (pss_cons (ps_set (i := 1) sc_polynomial_from.nd rfl (by first | exact Or.inl rfl | exact Or.inr rfl) (pe_cal C_scale_of (hr.mono (by decide)) rfl (pa_cons (pv 0) pa_nil)))
      (pss_one (ps_ret (pe_make_Polynomial c_Polynomial (hr.mono (by decide)) rfl (pa_cons (pe_cal C_trimmed (hr.mono (by decide)) rfl (pa_cons (pe_cal C_whole_row (hr.mono (by decide)) rfl (pa_cons (pv 0) (pa_cons (pv 1) pa_nil))) pa_nil)) (pa_cons (pv 1) pa_nil)))))), ?_⟩
  rintro ⟨n, f'⟩ ⟨hn, hb⟩
  have hn : n ≤ 9 := hn
  have hb : ∀ i, i < n → Bd 133 (f' i) := hb
  dsimp only
  have sb : scT f' n < 2 ^ (133 * n + 1) := scT_bd f' 133 n fun i hi => (hb i hi).2
  refine dens_seq (dens_set 1 (den_call (n, f') (dena_cons (den_var rfl) dena_nil) ⟨133, by show 133 * n + 1 ≤ 40000000; omega, by omega, hb⟩)) (dens_ret (den_make2 (dena_cons (den_call ((List.range n).map fun j => whZ f' (scT f' n) j) (dena_cons (den_call (n, f', scT f' n) (dena_cons (den_var rfl) (dena_cons (den_var rfl) dena_nil)) ⟨by show n ≤ 1000; omega, Lim.mk sb (by omega), fun i hi => Lim.mk (hb i hi).1 (by omega)⟩) dena_nil) (by simp; omega)) (dena_cons (den_var rfl) dena_nil)) (by decide)))
abbrev s_in_half_plane : Stmt := top 21
theorem sc_in_half_plane : FnScope ["f", "result", "factor", "x"] ["f"] (defScope s_in_half_plane) := ⟨rfl, rfl, rfl, by decide +kernel, rfl, by decide +kernel, by decide +kernel⟩
abbrev sp_in_half_plane : Sp := SpF (α := List Int × Nat) (fun x => x.1.length ≤ 9 ∧ BZ x.2 x.1 ∧ x.2 ≤ 1400) (fun x => [rRowZ x.1]) (fun x => rRowZ (mobZ x.1))
theorem ok_in_half_plane (T : At K mg "in_half_plane" s_in_half_plane ["f"]) (C_whole_sum : Cal P w K mg base 34 "whole_sum" ["f", "g"] sp_whole_sum) (C_whole_multiplied : Cal P w K mg base 35 "whole_multiplied" ["f", "g"] sp_whole_multiplied) (C_grown_row : Cal P w K mg base 33 "grown_row" ["row", "factor"] sp_grown_row) (h_reversed : mg "reversed" = none) : Cal P w K mg base 36 "in_half_plane" ["f"] sp_in_half_plane := by
  refine T.cal fun f fd F => fun_pure F sc_in_half_plane (fun _ => rfl) fun cdv A outer s H E hr => ⟨_, (pss_cons (ps_set (i := 1) sc_in_half_plane.nd rfl (by first | exact Or.inl rfl | exact Or.inr rfl) (pe_lst pa_nil))
      (pss_cons (ps_set (i := 2) sc_in_half_plane.nd rfl (by first | exact Or.inl rfl | exact Or.inr rfl) (pe_lst (pa_cons pe_int pa_nil)))
      (pss_cons (ps_for PassesOwn.never rfl (pi_reversed rfl h_reversed (pa_cons (pv 0) pa_nil)) (pg_name (i := 3) sc_in_half_plane.nd rfl (by first | exact Or.inl rfl | exact Or.inr rfl)) (pss_cons (ps_set (i := 1) sc_in_half_plane.nd rfl (by first | exact Or.inl rfl | exact Or.inr rfl) (pe_cal C_whole_sum (hr.mono (by decide)) rfl (pa_cons (pe_cal C_whole_multiplied (hr.mono (by decide)) rfl (pa_cons (pv 1) (pa_cons (pe_lst (pa_cons pe_int (pa_cons pe_int pa_nil))) pa_nil))) (pa_cons (pe_cal C_grown_row (hr.mono (by decide)) rfl (pa_cons (pv 2) (pa_cons (pv 3) pa_nil))) pa_nil))))
      (pss_one (ps_set (i := 2) sc_in_half_plane.nd rfl (by first | exact Or.inl rfl | exact Or.inr rfl) (pe_cal C_whole_multiplied (hr.mono (by decide)) rfl (pa_cons (pv 2) (pa_cons (pe_lst (pa_cons pe_int (pa_cons (pe_un un_neg pe_int) pa_nil))) pa_nil)))))))
      (pss_one (ps_ret (pv 1)))))), ?_⟩
  rintro ⟨w', m⟩ ⟨h1, b1, hm⟩
  have h1 : w'.length ≤ 9 := h1
  have b1 : BZ m w' := b1
  have hm : m ≤ 1400 := hm
  refine dens_seq (dens_set 1 (p := rRowZ []) (den_of_F (denf_lst (ps := []) dena_nil))) (dens_seq (dens_set 2 (p := rRowZ [1]) (den_of_F (denf_lst (ps := [rI' 1]) (dena_cons (den_c _) dena_nil)))) (dens_seq (dens_for (vs := [3]) (n := w'.length) (fun i => [.sh (rRowZ w'), .sh (rRowZ (mobR w' i).1), .sh (rRowZ (mobR w' i).2), .no]) (deni_rev (item := fun i => rI' (coZ w' (w'.length - 1 - i))) (den_var rfl) (by simp) (fun i hi => intIx (by omega))) fun i hi => ?_) (dens_ret (den_var rfl))))
  obtain ⟨c1, c2⟩ := mobR_bd b1 i (by omega)
  have l1 := (mobR_fac w' 0 i).2
  have l2 := mobR_len w' i
  have l3 := mulZ_len (mobR w' i).1 [1, 1]
  simp only [List.length_cons, List.length_nil] at l3
  refine ⟨_, _, deng_name 3, dens_seq (dens_set 1 (den_call (mulZ (mobR w' i).1 [1, 1], growZ (mobR w' i).2 (coZ w' (w'.length - 1 - i))) (dena_cons (den_call (((mobR w' i).1, [1, 1]), m + 101 + 12 * i, 1) (dena_cons (den_var rfl) (dena_cons (den_of_F (denf_lst (ps := [rI' 1, rI' 1]) (dena_cons (den_c _) (dena_cons (den_c _) dena_nil)))) dena_nil)) ⟨by show (mobR w' i).1.length ≤ 100; omega, by show 2 ≤ 100; decide, c2, BZ.two 1 (.inl rfl), by show m + 101 + 12 * i ≤ 30000000; omega, by show 1 ≤ 30000000; decide⟩) (dena_cons (den_call ((mobR w' i).2, coZ w' (w'.length - 1 - i)) (dena_cons (den_var rfl) (dena_cons (den_var rfl) dena_nil)) ⟨by show (mobR w' i).2.length ≤ 1000; omega, Lim.mk (b1 _) (by omega), fun k => Lim.mk (c1 k) (by omega)⟩) dena_nil)) ⟨by show (mulZ (mobR w' i).1 [1, 1]).length ≤ 1000; omega, by show (growZ (mobR w' i).2 (coZ w' (w'.length - 1 - i))).length ≤ 1000; rw [growZ_len]; omega⟩)) (dens_set 2 (den_call (((mobR w' i).2, [1, -1]), 1 + 11 * i, 1) (dena_cons (den_var rfl) (dena_cons (den_of_F (denf_lst (ps := [rI' 1, rI' (-1)]) (dena_cons (den_c _) (dena_cons (den_un (den_c _)) dena_nil)))) dena_nil)) ⟨by show (mobR w' i).2.length ≤ 100; omega, by show 2 ≤ 100; decide, c1, BZ.two (-1) (.inr rfl), by show 1 + 11 * i ≤ 30000000; omega, by show 1 ≤ 30000000; decide⟩)), rfl⟩
abbrev s_along_axis : Stmt := top 22
theorem sc_along_axis : FnScope ["f", "start", "result", "k", "x"] ["f", "start"] (defScope s_along_axis) := ⟨rfl, rfl, rfl, by decide +kernel, rfl, by decide +kernel, by decide +kernel⟩
abbrev sp_along_axis : Sp := SpF (α := List Int × Nat) (fun x => x.1.length ≤ 9 ∧ x.2 < 2) (fun x => [rRowZ x.1, rI' (x.2 : Int)]) (fun x => rRowZ (axZ x.1 x.2))
def axTo (w : List Int) (s n : Nat) : List Int := (List.range n).map fun k => if k % 2 ≠ s then 0 else if k % 4 = s then coZ w k else - coZ w k
theorem axTo_succ (w : List Int) (s n : Nat) : axTo w s (n + 1) = axTo w s n ++ [if n % 2 ≠ s then 0 else if n % 4 = s then coZ w n else - coZ w n] := by
  unfold axTo; rw [List.range_succ, List.map_append]; rfl
theorem axTo_len (w : List Int) (s n : Nat) : (axTo w s n).length = n := by unfold axTo; simp
theorem ok_along_axis (T : At K mg "along_axis" s_along_axis ["f", "start"]) (C_trimmed : Cal P w K mg base 33 "trimmed" ["whole"] sp_trimmed) (h_enumerate : mg "enumerate" = none) : Cal P w K mg base 34 "along_axis" ["f", "start"] sp_along_axis := by
  refine T.cal fun f fd F => fun_pure F sc_along_axis (fun _ => rfl) fun cdv A outer s H E hr => ⟨_, (pss_cons (ps_set (i := 2) sc_along_axis.nd rfl (by first | exact Or.inl rfl | exact Or.inr rfl) (pe_lst pa_nil))
      (pss_cons (ps_for PassesOwn.never rfl (pi_enum rfl h_enumerate (pa_cons (pv 0) pa_nil)) (pg_tupK (K := K) (n := 2) rfl rfl (pgs_cons (pg_name (i := 3) sc_along_axis.nd rfl (by first | exact Or.inl rfl | exact Or.inr rfl)) (pgs_cons (pg_name (i := 4) sc_along_axis.nd rfl (by first | exact Or.inl rfl | exact Or.inr rfl)) pgs_nil))) (pss_one (ps_if (pt_cmp (pc_neI (pe_op op_mod (pv 3) pe_int) (pv 1))) (pss_one (ps_expr (pe_bm PySem.F.plainAttrs_list PySem.F.slot_list_append PySem.F.type_list_append mt_append (pv 2) (pa_cons pe_int pa_nil)))) (pss_one (ps_if (pt_cmp (pc_eqI (pe_op op_mod (pv 3) pe_int) (pv 1))) (pss_one (ps_expr (pe_bm PySem.F.plainAttrs_list PySem.F.slot_list_append PySem.F.type_list_append mt_append (pv 2) (pa_cons (pv 4) pa_nil)))) (pss_one (ps_expr (pe_bm PySem.F.plainAttrs_list PySem.F.slot_list_append PySem.F.type_list_append mt_append (pv 2) (pa_cons (pe_un un_neg (pv 4)) pa_nil)))))))))
      (pss_one (ps_ret (pe_cal C_trimmed (hr.mono (by decide)) rfl (pa_cons (pv 2) pa_nil)))))), ?_⟩
  rintro ⟨w', s⟩ ⟨h1, hs⟩
  have h1 : w'.length ≤ 9 := h1
  have hs : s < 2 := hs
  refine dens_seq (dens_setO 2 (denf_lst (ps := []) dena_nil)) (dens_seq (dens_for (vs := [3, 4]) (n := w'.length) (fun i => [.sh (rRowZ w'), .sh (rI' (s : Int)), .ow ((axTo w' s i).map rI'), .no, .no]) (deni_enum (den_var rfl) (by simp) (fun i hi => intIx hi)) fun i hi => ?_) ?_)
  · have szl : (axTo w' s i).length < sizeLine := by rw [axTo_len]; exact Nat.lt_of_lt_of_le (show i < 100 by omega) (by decide)
    have szl' : ((axTo w' s i).map rI').length < sizeLine := by rw [List.length_map]; exact szl
    have m2 : ((i : Int) % 2 = (s : Int)) ↔ i % 2 = s := by omega
    have m4 : ((i : Int) % 4 = (s : Int)) ↔ i % 4 = s := by omega
    refine ⟨_, _, deng_pair 3 4, dens_if (b := decide (i % 2 ≠ s)) (o := .nx [.sh (rRowZ w'), .sh (rI' (s : Int)), .ow ((axTo w' s (i + 1)).map rI'), .sh (rI' (i : Int)), .sh (rI' (coZ w' i))]) (dent_eq (dent_B (den_cmp (den_opC (den_var rfl) (den_c _) ?_) (den_var rfl))) ?_) (fun h => ?_) (fun h => ?_), rfl⟩
    · show (0 : Int) < 2; decide
    · rw [Bool.eq_iff_iff]; simp; omega
    · have h := of_decide_eq_true h
      refine dens_eq (dens_append (i := 2) rfl (den_c _) szl') ?_
      rw [axTo_succ, if_pos h, List.map_append]; rfl
    · have h := of_decide_eq_false h
      refine dens_if (b := decide (i % 4 = s)) (dent_eq (dent_B (den_cmp (den_opC (den_var rfl) (den_c _) ?_) (den_var rfl))) ?_) (fun h2 => ?_) (fun h2 => ?_)
      · show (0 : Int) < 4; decide
      · rw [Bool.eq_iff_iff]; simp; omega
      · have h2 := of_decide_eq_true h2
        refine dens_eq (dens_append (i := 2) rfl (den_var rfl) szl') ?_
        rw [axTo_succ, if_neg h, if_pos h2, List.map_append]; rfl
      · have h2 := of_decide_eq_false h2
        refine dens_eq (dens_append (i := 2) rfl (den_un (den_var rfl)) szl') ?_
        rw [axTo_succ, if_neg h, if_neg h2, List.map_append]; rfl
  · exact dens_give (i := 2) rfl (dens_ret (den_call (axTo w' s w'.length) (dena_cons (den_var rfl) dena_nil) (by show (axTo w' s w'.length).length ≤ 1000; rw [axTo_len]; omega)))
abbrev s_chain : Stmt := top 23
theorem sc_chain : FnScope ["p", "q", "result", "rest"] ["p", "q"] (defScope s_chain) := ⟨rfl, rfl, rfl, by decide +kernel, rfl, by decide +kernel, by decide +kernel⟩
abbrev sp_chain : Sp := SpF (α := (List Int × List Int) × Nat × Nat) (fun x => x.1.1.length ≤ 9 ∧ x.1.2.length < x.1.1.length ∧ TrZ x.1.1 ∧ TrZ x.1.2 ∧ BZ x.2.1 x.1.1 ∧ BZ x.2.1 x.1.2 ∧ Pot x.2.1 x.1.1.length x.1.2.length x.2.2 ∧ x.2.2 ≤ 90000000) (fun x => [rRowZ x.1.1, rRowZ x.1.2]) (fun x => rLst ((chT x.1.2.length x.1.1 x.1.2).map rRowZ))
theorem ok_chain (T : At K mg "chain" s_chain ["p", "q"]) (C_without_content : Cal P w K mg base 35 "without_content" ["whole"] sp_without_content) (C_grown_row : Cal P w K mg base 33 "grown_row" ["row", "factor"] sp_grown_row) (C_divided : Cal P w K mg base 35 "divided" ["f", "g"] (sp_divided CDivision)) (c_Polynomial : KlsPolynomial P w K mg base CPolynomial) (c_Division : KlsDivision P w K mg base CDivision) : Cal P w K mg base 36 "chain" ["p", "q"] sp_chain := by
  refine T.cal fun f fd F => fun_pure F sc_chain (fun _ => rfl) fun cdv A outer s H E hr => ⟨_, (pss_cons (ps_set (i := 2) sc_chain.nd rfl (by first | exact Or.inl rfl | exact Or.inr rfl) (pe_lst (pa_cons (pv 0) pa_nil)))
      (pss_cons (ps_while PassesOwn.never (pt_cmpR (op_neD hr.units) (pv 1) (pe_lst pa_nil) (nomark _)) (pss_cons (ps_expr (pe_bm PySem.F.plainAttrs_list PySem.F.slot_list_append PySem.F.type_list_append mt_append (pv 2) (pa_cons (pv 1) pa_nil)))
      (pss_cons (ps_set (i := 3) sc_chain.nd rfl (by first | exact Or.inl rfl | exact Or.inr rfl) (pe_cal C_without_content (hr.mono (by decide)) rfl (pa_cons (pe_fldK (K := K) rfl (pe_cal C_divided (hr.mono (by decide)) rfl (pa_cons (pv 0) (pa_cons (pv 1) pa_nil))) rfl) pa_nil)))
      (pss_cons (ps_set (i := 0) sc_chain.nd rfl (by first | exact Or.inl rfl | exact Or.inr rfl) (pv 1))
      (pss_one (ps_set (i := 1) sc_chain.nd rfl (by first | exact Or.inl rfl | exact Or.inr rfl) (pe_cal C_grown_row (hr.mono (by decide)) rfl (pa_cons (pv 3) (pa_cons (pe_un un_neg pe_int) pa_nil)))))))))
      (pss_one (ps_ret (pv 2))))), ?_⟩
  rintro ⟨⟨p', q'⟩, M0, C0⟩ ⟨h1, h2, tp, tq, bp, bq, pot, hC⟩
  have h1 : p'.length ≤ 9 := h1
  have h2 : q'.length < p'.length := h2
  have tp : TrZ p' := tp
  have tq : TrZ q' := tq
  have bp : BZ M0 p' := bp
  have bq : BZ M0 q' := bq
  have pot : Pot M0 p'.length q'.length C0 := pot
  have hC : C0 ≤ 90000000 := hC
  dsimp only
  refine dens_seq (dens_setO 2 (denf_lst (ps := [rRowZ p']) (dena_cons (den_var rfl) dena_nil))) ?_
  refine dens_whileE (α := (List Int × List Int) × List (List Int)) (fun s => [.sh (rRowZ s.1.1), .sh (rRowZ s.1.2), .ow (s.2.map rRowZ), .no]) (fun s => TrZ s.1.1 ∧ TrZ s.1.2 ∧ s.1.1.length ≤ 9 ∧ s.1.2.length < s.1.1.length ∧ (∃ M, BZ M s.1.1 ∧ BZ M s.1.2 ∧ Pot M s.1.1.length s.1.2.length C0) ∧ s.2 ++ (chT s.1.2.length s.1.1 s.1.2).tail = chT q'.length p' q' ∧ s.2.length + s.1.2.length ≤ 20) (fun s => s.1.2.length) ((p', q'), [p']) ⟨tp, tq, h1, h2, ⟨M0, bp, bq, pot⟩, (chT_head _ _ _).symm, by show 1 + q'.length ≤ 20; omega⟩ ?_
  rintro ⟨⟨u, v⟩, acc⟩ ⟨tu, tv, lu, luv, ⟨M, bu, bv, pot⟩, ec, la⟩
  have tu : TrZ u := tu
  have tv : TrZ v := tv
  have lu : u.length ≤ 9 := lu
  have luv : v.length < u.length := luv
  have bu : BZ M u := bu
  have bv : BZ M v := bv
  have pot : Pot M u.length v.length C0 := pot
  have ec : acc ++ (chT v.length u v).tail = chT q'.length p' q' := ec
  have la : acc.length + v.length ≤ 20 := la
  refine ⟨_, dent_Test (den_notNil (den_var rfl)), fun h => ?_, fun h => ?_⟩
  · have nv : v ≠ [] := by
      intro z; subst z; simp at h
    obtain ⟨s0, d2, d3, d4, d5⟩ := divZ_spec tu tv nv
    obtain ⟨tn, ln⟩ := nxt_tr tu tv nv
    obtain ⟨p1, p2⟩ := pot_step pot ln
    have vl : 0 < v.length := List.length_pos_iff.mpr nv
    have hm : M + (u.length + 1 - v.length) * (M + 1) ≤ 35000000 := by omega
    have br : BZ (M + (u.length + 1 - v.length) * (M + 1)) (divZ u v).r := dv_bd bu bv _ _
    have brc := br.cont
    refine ⟨((v, nxt u v), acc ++ [v]), _, dens_drop 3 (dens_seq (dens_append (i := 2) rfl (den_var rfl) ?_) (dens_seq (dens_set 3 (den_call (divZ u v).r (dena_cons (den_f2 (den_call ((u, v), M, M) (dena_cons (den_var rfl) (dena_cons (den_var rfl) dena_nil)) ⟨by show u.length ≤ 100; omega, by show v.length ≤ 100; omega, nv, bu, bv, hm, by show M ≤ 35000000; omega⟩) c_Division.cl (c_Division.no "rest" (by simp))) dena_nil) ⟨by show (divZ u v).r.length ≤ 1000; omega, d2⟩)) (dens_seq (dens_set 0 (den_var rfl)) (dens_set 1 (den_call (contZ (divZ u v).r, -1) (dena_cons (den_var rfl) (dena_cons (den_un (den_c _)) dena_nil)) ⟨by show (contZ (divZ u v).r).length ≤ 1000; rw [contZ_len]; omega, Lim.mk (k := 1) (by show ((-1 : Int)).natAbs < 2 ^ 1; decide) (by decide), fun k => Lim.mk (brc k) (by omega)⟩))))), fun G0 H0 G H σ F => ?_, ⟨tv, tn, by show v.length ≤ 9; omega, ln, ⟨_, bv.mono (by omega), nxt_bd bu bv, p1⟩, ?_, ?_⟩, ln⟩
    · rw [List.length_map]; exact Nat.lt_of_lt_of_le (show acc.length < 100 by omega) (by decide)
    · show Fr G0 H0 G H σ [.sh (rRowZ v), .sh (rRowZ (nxt u v)), .ow ((acc ++ [v]).map rRowZ), .no]
      rw [List.map_append]
      exact F
    · show (acc ++ [v]) ++ (chT (nxt u v).length v (nxt u v)).tail = _
      rw [← ec]
      obtain ⟨t, ht⟩ : ∃ t, v.length = t + 1 := ⟨v.length - 1, by omega⟩
      rw [ht, chT_step nv, chT_more (nxt u v).length t v (nxt u v) tv tn (Nat.le_refl _) (by omega), List.append_assoc]
      congr 1
      exact (chT_head t v (nxt u v)).symm
    · show (acc ++ [v]).length + (nxt u v).length ≤ 20
      rw [List.length_append, List.length_singleton]; omega
  · have nv : v = [] := by
      apply Classical.byContradiction
      intro z; simp [z] at h
    subst nv
    have e : acc = chT q'.length p' q' := by
      rw [← ec, chT_nil]; simp
    rw [← e]
    exact dens_retO rfl
abbrev s_changes : Stmt := top 24
theorem sc_changes : FnScope ["found", "k"] ["found"] (defScope s_changes) := ⟨rfl, rfl, rfl, by decide +kernel, rfl, by decide +kernel, by decide +kernel⟩
abbrev sp_changes : Sp := SpF (α := List Bool) (fun x => x.length ≤ 100) (fun x => [rLst (x.map rB)]) (fun x => rI' (chB x))
theorem chK_succ (bs : List Bool) (n : Nat) : chK bs (n + 1) = chK bs n ++ if (!decide (bs.getD (n + 1) false = bs.getD n false)) = true then [n] else [] := by
  unfold chK
  rw [List.range_succ, List.filter_append, List.filter_cons, List.filter_nil]
theorem boolIx {xs : List Bool} {i : Nat} (hi : i < xs.length) : (xs.map rB)[i]? = some (rB (xs.getD i false)) := by
  rw [List.getElem?_map, List.getElem?_eq_getElem hi, List.getD_eq_getElem?_getD, List.getElem?_eq_getElem hi]; rfl
theorem ok_changes (T : At K mg "changes" s_changes ["found"]) (h_len : mg "len" = none) (h_range : mg "range" = none) : Cal P w K mg base 33 "changes" ["found"] sp_changes := by
  refine T.cal fun f fd F => fun_pure F sc_changes (fun _ => rfl) fun cdv A outer s H E hr => ⟨_, (pss_one (ps_ret (pe_callB (call_lenK (K := K) rfl) rfl h_len PySem.boot_len (pa_cons (pe_lc rfl sc_changes.nd (pi_range2 rfl h_range (pa_cons pe_int (pa_cons (pe_callB (call_lenK (K := K) rfl) rfl h_len PySem.boot_len (pa_cons (pv 0) pa_nil)) pa_nil))) (blkOk_by (N := ["found", "k"]) (sc := defScope s_changes) (own := [("k", 1)]) (by decide +kernel)) (fun _ _ _ _ _ => (pg_name (i := 1) sc_changes.nd rfl (by first | exact Or.inl rfl | exact Or.inr rfl))) (fun _ _ _ _ _ => pts_one (pt_cmpR op_ne (pe_ix (ix_seqK (K := K) rfl) (pv 0) (pv 1) (fun _ _ => rfl)) (pe_ix (ix_seqK (K := K) rfl) (pv 0) (pe_op op_sub (pv 1) pe_int) (fun _ _ => rfl)) (nomark _))) (fun _ _ _ _ _ => (pv 1))) pa_nil)))), ?_⟩
  rintro x hx
  have hx : x.length ≤ 100 := hx
  have e : ((x.length : Int) - 1).toNat = x.length - 1 := by omega
  refine dens_ret (den_eq (den_lenL (den_of_F (denf_lc (fun i => (chK x i).map fun (k : Nat) => rI' (1 + (k : Int))) (deni_rng2 (l := 1) (m := (x.length : Int)) (dena_cons (den_c _) (dena_cons (den_eq (den_lenL (den_var rfl)) (by rw [List.length_map])) dena_nil)) (by omega)) rfl ?_ fun i hi => ?_))) ?_)
  · rw [e]; exact Nat.le_trans (show x.length - 1 ≤ 100 by omega) (by decide)
  · rw [e] at hi
    refine ⟨_, _, deng_name 1, dent_Test (den_neB (den_ixL (den_var rfl) (den_var rfl) (by omega) (boolIx (i := (1 + (i : Int)).toNat) (by omega))) (den_ixL (den_var rfl) (den_opI (den_var rfl) (den_c _)) (by show (0 : Int) ≤ 1 + (i : Int) - 1; omega) (boolIx (i := (1 + (i : Int) - 1).toNat) (by omega)))), fun h => ⟨_, den_var rfl, ?_⟩, fun h => ?_⟩
    · rw [show (1 + (i : Int)).toNat = i + 1 by omega, show (1 + (i : Int) - 1).toNat = i by omega] at h
      rw [chK_succ, if_pos h, List.map_append]; rfl
    · rw [show (1 + (i : Int)).toNat = i + 1 by omega, show (1 + (i : Int) - 1).toNat = i by omega] at h
      rw [chK_succ, if_neg (by rw [h]; decide), List.append_nil]
  · rw [List.length_map, e, chK_eq]
abbrev s_poles : Stmt := top 25
theorem sc_poles : FnScope ["links", "p", "at_end", "at_beginning"] ["links"] (defScope s_poles) := ⟨rfl, rfl, rfl, by decide +kernel, rfl, by decide +kernel, by decide +kernel⟩
abbrev sp_poles : Sp := SpF (α := List (List Int)) (fun x => x.length ≤ 100 ∧ ∀ r ∈ x, r ≠ []) (fun x => [rLst (x.map rRowZ)]) (fun x => rI' (chB (x.map beB) - chB (x.map enB)))
theorem rowsIx {xs : List (List Int)} {i : Nat} (hi : i < xs.length) : (xs.map rRowZ)[i]? = some (rRowZ (xs.getD i [])) := by
  rw [List.getElem?_map, List.getElem?_eq_getElem hi, List.getD_eq_getElem?_getD, List.getElem?_eq_getElem hi]; rfl
theorem map_by_range {α β : Type} (xs : List α) (d : α) (g : α → β) : (List.range xs.length).map (fun i => g (xs.getD i d)) = xs.map g := by
  apply List.ext_getElem?
  intro i
  rw [List.getElem?_map, List.getElem?_map]
  by_cases hi : i < xs.length
  · rw [List.getElem?_range hi, List.getElem?_eq_getElem hi]
    show some (g (xs.getD i d)) = some (g xs[i])
    rw [List.getD_eq_getElem?_getD, List.getElem?_eq_getElem hi]; rfl
  · rw [List.getElem?_eq_none (by simp; omega), List.getElem?_eq_none (by omega)]; rfl
theorem ok_poles (T : At K mg "poles" s_poles ["links"]) (C_changes : Cal P w K mg base 33 "changes" ["found"] sp_changes) (h_len : mg "len" = none) : Cal P w K mg base 34 "poles" ["links"] sp_poles := by
  refine T.cal fun f fd F => fun_pure F sc_poles (fun _ => rfl) fun cdv A outer s H E hr => ⟨_, (pss_cons (ps_setLc (i := 2) rfl sc_poles.nd rfl rfl (sw_true rfl rfl rfl rfl) (pi_list (pv 0)) (blkOk_by (N := ["links", "p", "at_end", "at_beginning"]) (sc := defScope s_poles) (own := [("p", 1)]) (by decide +kernel)) (fun _ _ _ _ _ => (pg_name (i := 1) sc_poles.nd rfl (by first | exact Or.inl rfl | exact Or.inr rfl))) (fun _ _ _ _ _ => pts_nil) (fun _ _ _ _ _ => (pe_cmp (pc_gt (pe_ix (ix_seqK (K := K) rfl) (pv 1) (pe_un un_neg pe_int) (fun _ _ => rfl)) pe_int))))
      (pss_cons (ps_setLc (i := 3) rfl sc_poles.nd rfl rfl (sw_true rfl rfl rfl rfl) (pi_list (pv 0)) (blkOk_by (N := ["links", "p", "at_end", "at_beginning"]) (sc := defScope s_poles) (own := [("p", 1)]) (by decide +kernel)) (fun _ _ _ _ _ => (pg_name (i := 1) sc_poles.nd rfl (by first | exact Or.inl rfl | exact Or.inr rfl))) (fun _ _ _ _ _ => pts_nil) (fun _ _ _ _ _ => (pe_cmpR op_eq (pe_cmp (pc_gt (pe_ix (ix_seqK (K := K) rfl) (pv 1) (pe_un un_neg pe_int) (fun _ _ => rfl)) pe_int)) (pe_cmp (pc_eqI (pe_op op_mod (pe_callB (call_lenK (K := K) rfl) rfl h_len PySem.boot_len (pa_cons (pv 1) pa_nil)) pe_int) pe_int)) (nomark _))))
      (pss_one (ps_ret (pe_op op_sub (pe_cal C_changes (hr.mono (by decide)) rfl (pa_cons (pv 3) pa_nil)) (pe_cal C_changes (hr.mono (by decide)) rfl (pa_cons (pv 2) pa_nil))))))), ?_⟩
  rintro x ⟨hx, hn⟩
  have hx : x.length ≤ 100 := hx
  have hn : ∀ r ∈ x, r ≠ [] := hn
  dsimp only
  have ne : ∀ i, i < x.length → x.getD i [] ≠ [] := fun i hi => by
    rw [List.getD_eq_getElem?_getD, List.getElem?_eq_getElem hi]
    exact hn _ (List.getElem_mem hi)
  have sz : x.length ≤ sizeLine := Nat.le_trans hx (by decide)
  refine dens_seq (dens_set 2 (p := rLst ((x.map enB).map rB)) (den_eq (den_of_F (denf_map (n := x.length) (fun i => rB (enB (x.getD i []))) (deni_list (item := fun i => rRowZ (x.getD i [])) (den_var rfl) (by simp) (fun i hi => rowsIx hi)) sz fun i hi => ⟨_, deng_name 1, den_cmp (den_lastZ (den_var rfl) (den_un (den_c _)) (ne i hi)) (den_c _)⟩)) (by rw [map_by_range x [] (fun r => rB (enB r)), List.map_map]; rfl))) ?_
  refine dens_seq (dens_set 3 (p := rLst ((x.map beB).map rB)) (den_eq (den_of_F (denf_map (n := x.length) (fun i => rB (beB (x.getD i []))) (deni_list (item := fun i => rRowZ (x.getD i [])) (den_var rfl) (by simp) (fun i hi => rowsIx hi)) sz fun i hi => ⟨_, deng_name 1, ?_⟩)) (by rw [map_by_range x [] (fun r => rB (beB r)), List.map_map]; rfl))) ?_
  · refine den_eq (den_eqB (den_cmp (den_lastZ (den_var rfl) (den_un (den_c _)) (ne i hi)) (den_c _)) (den_cmp (den_opC (den_lenL (den_var rfl)) (den_c _) (by show (0 : Int) < 2; decide)) (den_c _))) ?_
    rw [List.length_map]; rfl
  · exact dens_ret (den_opI (den_call (x.map beB) (dena_cons (den_var rfl) dena_nil) (by show (x.map beB).length ≤ 100; rw [List.length_map]; exact hx)) (den_call (x.map enB) (dena_cons (den_var rfl) dena_nil) (by show (x.map enB).length ≤ 100; rw [List.length_map]; exact hx)))
abbrev s_derived : Stmt := top 26
theorem sc_derived : FnScope ["p", "k", "x"] ["p"] (defScope s_derived) := ⟨rfl, rfl, rfl, by decide +kernel, rfl, by decide +kernel, by decide +kernel⟩
abbrev sp_derived : Sp := SpF (α := List Int × Nat) (fun x => x.1.length ≤ 9 ∧ x.1 ≠ [] ∧ BZ x.2 x.1 ∧ x.2 ≤ 39000000) (fun x => [rRowZ x.1]) (fun x => rRowZ (derZ x.1))
theorem ok_derived (T : At K mg "derived" s_derived ["p"]) (h_enumerate : mg "enumerate" = none) : Cal P w K mg base 33 "derived" ["p"] sp_derived := by
  refine T.cal fun f fd F => fun_pure F sc_derived (fun _ => rfl) fun cdv A outer s H E hr => ⟨_, (pss_one (ps_ret (pe_slice (sl_listK (K := K) rfl) (pe_lc rfl sc_derived.nd (pi_enum rfl h_enumerate (pa_cons (pv 0) pa_nil)) (blkOk_by (N := ["p", "k", "x"]) (sc := defScope s_derived) (own := [("k", 1), ("x", 2)]) (by decide +kernel)) (fun _ _ _ _ _ => (pg_tupK (K := K) (n := 2) rfl rfl (pgs_cons (pg_name (i := 1) sc_derived.nd rfl (by first | exact Or.inl rfl | exact Or.inr rfl)) (pgs_cons (pg_name (i := 2) sc_derived.nd rfl (by first | exact Or.inl rfl | exact Or.inr rfl)) pgs_nil)))) (fun _ _ _ _ _ => pts_nil) (fun _ _ _ _ _ => (pe_op op_mulK (pv 1) (pv 2)))) (po_some pe_int) po_none))), ?_⟩
  rintro ⟨w', m⟩ ⟨h1, nw, b1, hm⟩
  have h1 : w'.length ≤ 9 := h1
  have nw : w' ≠ [] := nw
  have b1 : BZ m w' := b1
  have hm : m ≤ 39000000 := hm
  have l0 : 0 < w'.length := List.length_pos_iff.mpr nw
  dsimp only
  refine dens_ret (den_eq (den_of_F (denf_from (n := 1) (den_of_F (denf_map (n := w'.length) (fun i => rI' ((i : Int) * coZ w' i)) (deni_enum (den_var rfl) (by simp) (fun i hi => intIx hi)) (Nat.le_trans (show w'.length ≤ 100 by omega) (by decide)) fun i hi => ⟨_, deng_pair 1 2, den_opC (den_var rfl) (den_var rfl) (mulL ?_ (Lim.mk (b1 i) (by omega)))⟩)) (den_c _) (by simp; omega))) ?_)
  · rw [Int.natAbs_natCast]
    exact Lim.mk (k := 9) (by have : i < 2 ^ 9 := by omega
                              exact this) (by decide)
  · unfold derZ rRowZ
    rw [List.map_drop, List.map_map]; rfl
abbrev s_real_roots : Stmt := top 27
theorem sc_real_roots : FnScope ["p", "count", "links"] ["p"] (defScope s_real_roots) := ⟨rfl, rfl, rfl, by decide +kernel, rfl, by decide +kernel, by decide +kernel⟩
abbrev sp_real_roots : Sp := SpF (α := List Int × Nat) (fun x => x.1.length ≤ 9 ∧ TrZ x.1 ∧ x.1 ≠ [] ∧ BZ x.2 x.1 ∧ (x.2 + 1) * 3 ^ x.1.length ≤ 60000000) (fun x => [rRowZ x.1]) (fun x => rI' (rrT x.1.length x.1))
theorem ok_real_roots (T : At K mg "real_roots" s_real_roots ["p"]) (C_chain : Cal P w K mg base 36 "chain" ["p", "q"] sp_chain) (C_poles : Cal P w K mg base 34 "poles" ["links"] sp_poles) (C_derived : Cal P w K mg base 33 "derived" ["p"] sp_derived) (h_len : mg "len" = none) : Cal P w K mg base 37 "real_roots" ["p"] sp_real_roots := by
  refine T.cal fun f fd F => fun_pure F sc_real_roots (fun _ => rfl) fun cdv A outer s H E hr => ⟨_, (pss_cons (ps_set (i := 1) sc_real_roots.nd rfl (by first | exact Or.inl rfl | exact Or.inr rfl) pe_int)
      (pss_cons (ps_while PassesOwn.never (pt_cmp (pc_gt (pe_callB (call_lenK (K := K) rfl) rfl h_len PySem.boot_len (pa_cons (pv 0) pa_nil)) pe_int)) (pss_cons (ps_set (i := 2) sc_real_roots.nd rfl (by first | exact Or.inl rfl | exact Or.inr rfl) (pe_cal C_chain (hr.mono (by decide)) rfl (pa_cons (pv 0) (pa_cons (pe_cal C_derived (hr.mono (by decide)) rfl (pa_cons (pv 0) pa_nil)) pa_nil))))
      (pss_cons (ps_aug (i := 1) sc_real_roots.nd rfl (by first | exact Or.inl rfl | exact Or.inr rfl) (pe_cal C_poles (hr.mono (by decide)) rfl (pa_cons (pv 2) pa_nil)) ip_add)
      (pss_one (ps_set (i := 0) sc_real_roots.nd rfl (by first | exact Or.inl rfl | exact Or.inr rfl) (pe_ix (ix_seqK (K := K) rfl) (pv 2) (pe_un un_neg pe_int) (fun _ _ => rfl)))))))
      (pss_one (ps_ret (pv 1))))), ?_⟩
  rintro ⟨p', M0⟩ ⟨h1, tp, np, bp, hM⟩
  have h1 : p'.length ≤ 9 := h1
  have tp : TrZ p' := tp
  have np : p' ≠ [] := np
  have bp : BZ M0 p' := bp
  have hM : (M0 + 1) * 3 ^ p'.length ≤ 60000000 := hM
  dsimp only
  refine dens_seq (dens_set 1 (den_c _)) ?_
  refine dens_whileE (α := List Int × Int) (fun s => [.sh (rRowZ s.1), .sh (rI' s.2), .no]) (fun s => TrZ s.1 ∧ s.1 ≠ [] ∧ s.1.length ≤ 9 ∧ (∃ M, BZ M s.1 ∧ (M + 1) * 3 ^ s.1.length + 100000 * s.1.length ≤ 61000000) ∧ s.2 + rrT s.1.length s.1 = rrT p'.length p') (fun s => s.1.length) (p', 0) ⟨tp, np, h1, ⟨M0, bp, by show (M0 + 1) * 3 ^ p'.length + 100000 * p'.length ≤ 61000000; omega⟩, by show 0 + rrT p'.length p' = _; omega⟩ ?_
  rintro ⟨u, c⟩ ⟨tu, nu, lu, ⟨M, bu, hu⟩, ec⟩
  have tu : TrZ u := tu
  have nu : u ≠ [] := nu
  have lu : u.length ≤ 9 := lu
  have bu : BZ M u := bu
  have hu : (M + 1) * 3 ^ u.length + 100000 * u.length ≤ 61000000 := hu
  have ec : c + rrT u.length u = rrT p'.length p' := ec
  have lu0 : 0 < u.length := List.length_pos_iff.mpr nu
  refine ⟨decide (1 < u.length), dent_eq (dent_B (den_cmp (den_lenL (den_var rfl)) (den_c _))) (by rw [List.length_map]; show decide ((1 : Int) < (u.length : Int)) = _; exact decide_eq_decide.mpr (by omega)), fun h => ?_, fun h => ?_⟩
  · have h := of_decide_eq_true h
    have dl := derZ_len u
    have td := derZ_tr tu
    obtain ⟨e1, e2⟩ := rrT_step tu nu h
    obtain ⟨tL, nL, _⟩ := las_spec (derZ u).length u (derZ u) tu td nu (Nat.le_refl _)
    have p3 : 3 ^ u.length ≤ 19683 := Nat.le_trans (Nat.pow_le_pow_right (by decide) lu) (by decide)
    have p3' : 1 ≤ 3 ^ u.length := Nat.one_le_pow _ _ (by decide)
    have hM1 : M + 1 ≤ (M + 1) * 3 ^ u.length := Nat.le_mul_of_pos_right _ (by omega)
    have M3 : 3 * (M + 1) ≤ (M + 1) * 3 ^ u.length := by
      have : 3 ^ 1 ≤ 3 ^ u.length := Nat.pow_le_pow_right (by decide) lu0
      rw [Nat.mul_comm 3]
      exact Nat.mul_le_mul_left _ (by omega)
    have C2 : (M + 4 + 1) * 3 ^ u.length ≤ 61000000 - 100000 * u.length + 80000 := by
      have : (M + 4 + 1) * 3 ^ u.length = (M + 1) * 3 ^ u.length + 4 * 3 ^ u.length := by
        rw [← Nat.add_mul]
      omega
    have pot : Pot (M + 4) u.length (derZ u).length (61000000 - 100000 * u.length + 80000) := by
      unfold Pot
      rw [show max u.length ((derZ u).length + 1) = u.length by omega]
      exact C2
    have bd : BZ (M + 4) (derZ u) := bu.der lu
    obtain ⟨M', b1, b2, b3⟩ := las_bd (derZ u).length u (derZ u) (M + 4) _ tu td nu (Nat.le_refl _) (bu.mono (by omega)) bd pot
    have ch : (chT (derZ u).length u (derZ u)).length ≤ 100 := by have := chT_len (derZ u).length u (derZ u); omega
    refine ⟨(lasT (derZ u).length u (derZ u), c + polT (derZ u).length u (derZ u)), _, dens_drop 2 (dens_seq (dens_set 2 (den_call ((u, derZ u), M + 4, 61000000 - 100000 * u.length + 80000) (dena_cons (den_var rfl) (dena_cons (den_call (u, M) (dena_cons (den_var rfl) dena_nil) ⟨lu, nu, bu, by show M ≤ 39000000; omega⟩) dena_nil)) ⟨lu, by show (derZ u).length < u.length; omega, tu, td, bu.mono (by show M ≤ M + 4; omega), bd, pot, by show 61000000 - 100000 * u.length + 80000 ≤ 90000000; omega⟩)) (dens_seq (dens_aug (i := 1) (m := c) (f := fun i j => i + j) rfl (den_eq (den_call (chT (derZ u).length u (derZ u)) (dena_cons (den_var rfl) dena_nil) ⟨ch, chT_all _ _ _ tu td nu⟩) (congrArg rI' (poles_eq (derZ u).length u (derZ u) tu td nu (by omega) (Nat.le_refl _))))) (dens_set 0 (p := rRowZ (lasT (derZ u).length u (derZ u))) (den_last (den_var rfl) (den_un (den_c _)) ?_)))), fun G0 H0 G H σ F => F, ⟨tL, nL, by show (lasT (derZ u).length u (derZ u)).length ≤ 9; omega, ⟨M', b1, ?_⟩, ?_⟩, e2⟩
    · rw [List.length_map, List.getElem?_map, chT_last]; rfl
    · show (M' + 1) * 3 ^ (lasT (derZ u).length u (derZ u)).length + 100000 * (lasT (derZ u).length u (derZ u)).length ≤ 61000000
      generalize (M' + 1) * 3 ^ (lasT (derZ u).length u (derZ u)).length = z at *
      omega
    · show c + polT (derZ u).length u (derZ u) + rrT (lasT (derZ u).length u (derZ u)).length (lasT (derZ u).length u (derZ u)) = _
      rw [← ec, e1]; omega
  · have h := of_decide_eq_false h
    have e : rrT u.length u = 0 := by
      rw [show u.length = 0 + 1 by omega]
      show (if u.length ≤ 1 then (0 : Int) else _) = 0
      rw [if_pos (by omega)]
    rw [e] at ec
    exact dens_ret (den_eq (den_var rfl) (by rw [← ec, Int.add_zero]))
abbrev s_counts_by_circle : Stmt := top 28
theorem sc_counts_by_circle : FnScope ["f", "degree", "moved", "fallen", "links", "difference", "on", "within"] ["f"] (defScope s_counts_by_circle) := ⟨rfl, rfl, rfl, by decide +kernel, rfl, by decide +kernel, by decide +kernel⟩
abbrev sp_counts_by_circle : Sp := SpF (α := List Int) (fun x => x.length ≤ 9 ∧ TrZ x ∧ x ≠ [] ∧ BZ 1400 x) (fun x => [rRowZ x]) (fun x => rRowZ (cntZ x))
theorem ok_counts_by_circle (T : At K mg "counts_by_circle" s_counts_by_circle ["f"]) (C_in_half_plane : Cal P w K mg base 36 "in_half_plane" ["f"] sp_in_half_plane) (C_chain : Cal P w K mg base 36 "chain" ["p", "q"] sp_chain) (C_poles : Cal P w K mg base 34 "poles" ["links"] sp_poles) (C_real_roots : Cal P w K mg base 37 "real_roots" ["p"] sp_real_roots) (C_along_axis : Cal P w K mg base 34 "along_axis" ["f", "start"] sp_along_axis) (h_len : mg "len" = none) (h_tree : P.given.tree = none) : Cal P w K mg base 38 "counts_by_circle" ["f"] sp_counts_by_circle := by
  refine T.cal fun f fd F => fun_pure F sc_counts_by_circle (fun _ => rfl) fun cdv A outer s H E hr => ⟨_, (pss_cons (ps_set (i := 1) sc_counts_by_circle.nd rfl (by first | exact Or.inl rfl | exact Or.inr rfl) (pe_op op_sub (pe_callB (call_lenK (K := K) rfl) rfl h_len PySem.boot_len (pa_cons (pv 0) pa_nil)) pe_int))
      (pss_cons (ps_set (i := 2) sc_counts_by_circle.nd rfl (by first | exact Or.inl rfl | exact Or.inr rfl) (pe_cal C_in_half_plane (hr.mono (by decide)) rfl (pa_cons (pv 0) pa_nil)))
      (pss_cons (ps_set (i := 3) sc_counts_by_circle.nd rfl (by first | exact Or.inl rfl | exact Or.inr rfl) (pe_op op_sub (pe_callB (call_lenK (K := K) rfl) rfl h_len PySem.boot_len (pa_cons (pv 0) pa_nil)) (pe_callB (call_lenK (K := K) rfl) rfl h_len PySem.boot_len (pa_cons (pv 2) pa_nil))))
      (pss_cons (ps_if (pt_cmp (pc_eqI (pe_op op_mod (pe_callB (call_lenK (K := K) rfl) rfl h_len PySem.boot_len (pa_cons (pv 2) pa_nil)) pe_int) pe_int)) (pss_cons (ps_set (i := 4) sc_counts_by_circle.nd rfl (by first | exact Or.inl rfl | exact Or.inr rfl) (pe_cal C_chain (hr.mono (by decide)) rfl (pa_cons (pe_cal C_along_axis (hr.mono (by decide)) rfl (pa_cons (pv 2) (pa_cons pe_int pa_nil))) (pa_cons (pe_cal C_along_axis (hr.mono (by decide)) rfl (pa_cons (pv 2) (pa_cons pe_int pa_nil))) pa_nil))))
      (pss_one (ps_set (i := 5) sc_counts_by_circle.nd rfl (by first | exact Or.inl rfl | exact Or.inr rfl) (pe_un un_neg (pe_cal C_poles (hr.mono (by decide)) rfl (pa_cons (pv 4) pa_nil)))))) (pss_cons (ps_set (i := 4) sc_counts_by_circle.nd rfl (by first | exact Or.inl rfl | exact Or.inr rfl) (pe_cal C_chain (hr.mono (by decide)) rfl (pa_cons (pe_cal C_along_axis (hr.mono (by decide)) rfl (pa_cons (pv 2) (pa_cons pe_int pa_nil))) (pa_cons (pe_cal C_along_axis (hr.mono (by decide)) rfl (pa_cons (pv 2) (pa_cons pe_int pa_nil))) pa_nil))))
      (pss_one (ps_set (i := 5) sc_counts_by_circle.nd rfl (by first | exact Or.inl rfl | exact Or.inr rfl) (pe_cal C_poles (hr.mono (by decide)) rfl (pa_cons (pv 4) pa_nil))))))
      (pss_cons (ps_set (i := 6) sc_counts_by_circle.nd rfl (by first | exact Or.inl rfl | exact Or.inr rfl) (pe_op op_add (pv 3) (pe_cal C_real_roots (hr.mono (by decide)) rfl (pa_cons (pe_ix (ix_seqK (K := K) rfl) (pv 4) (pe_un un_neg pe_int) (fun _ _ => rfl)) pa_nil))))
      (pss_cons (ps_set (i := 7) sc_counts_by_circle.nd rfl (by first | exact Or.inl rfl | exact Or.inr rfl) (pe_op (op_fdivP hr (by decide) (seen_cx sc_counts_by_circle h_tree)) (pe_op op_add (pe_op op_sub (pv 1) (pv 6)) (pv 5)) pe_int))
      (pss_one (ps_ret (pe_lst (pa_cons (pv 7) (pa_cons (pv 6) (pa_cons (pe_op op_sub (pe_op op_sub (pv 1) (pv 6)) (pv 7)) pa_nil)))))))))))), ?_⟩
  rintro w' ⟨h1, tw, nw, bw⟩
  have h1 : w'.length ≤ 9 := h1
  have tw : TrZ w' := tw
  have nw : w' ≠ [] := nw
  have bw : BZ 1400 w' := bw
  have tM : TrZ (mobZ w') := mobZ_tr
  have nM := mobZ_ne tw nw
  have Ml := mobZ_len w'
  have lM : 0 < (mobZ w').length := List.length_pos_iff.mpr nM
  obtain ⟨pl, ql⟩ := ax_len _ tM nM
  have bM : BZ 1620 (mobZ w') := (mobR_bd bw w'.length h1).2.mono (by omega)
  have tP : TrZ (axP (mobZ w')) := by unfold axP; split <;> exact axZ_tr _ _
  have tQ : TrZ (axQ (mobZ w')) := by unfold axQ; split <;> exact axZ_tr _ _
  have bP : BZ 1620 (axP (mobZ w')) := by unfold axP; split <;> exact bM.ax _
  have bQ : BZ 1620 (axQ (mobZ w')) := by unfold axQ; split <;> exact bM.ax _
  have nP : axP (mobZ w') ≠ [] := fun z => by rw [z] at pl; simp at pl; omega
  have pot : Pot 1620 (axP (mobZ w')).length (axQ (mobZ w')).length 60000000 := pot9 (by omega) (by omega)
  obtain ⟨tL, nL, _⟩ := las_spec (axQ (mobZ w')).length (axP (mobZ w')) (axQ (mobZ w')) tP tQ nP (Nat.le_refl _)
  obtain ⟨M', b1, b2, _⟩ := las_bd (axQ (mobZ w')).length (axP (mobZ w')) (axQ (mobZ w')) 1620 _ tP tQ nP (Nat.le_refl _) bP bQ pot
  have lL : (lasZ (mobZ w')).length ≤ 9 := by
    unfold lasZ
    by_cases z : axQ (mobZ w') = []
    · rw [z, (polT_nil _ _).2]; omega
    · have := las_len tP tQ nP z (n := (axQ (mobZ w')).length) (Nat.le_refl _)
      omega
  have ch : (chT (axQ (mobZ w')).length (axP (mobZ w')) (axQ (mobZ w'))).length ≤ 100 := by have := chT_len (axQ (mobZ w')).length (axP (mobZ w')) (axQ (mobZ w')); omega
  have pq := poles_eq (axQ (mobZ w')).length (axP (mobZ w')) (axQ (mobZ w')) tP tQ nP (by omega) (Nat.le_refl _)
  have ca := chT_all (axQ (mobZ w')).length (axP (mobZ w')) (axQ (mobZ w')) tP tQ nP
  refine dens_seq (dens_set 1 (p := rI' ((w'.length : Int) - 1)) (den_eq (den_opI (den_lenL (den_var rfl)) (den_c _)) (by rw [List.length_map]))) (dens_seq (dens_set 2 (den_call (w', 1400) (dena_cons (den_var rfl) dena_nil) ⟨h1, bw, by show 1400 ≤ 1400; omega⟩)) (dens_seq (dens_set 3 (p := rI' ((w'.length : Int) - ((mobZ w').length : Int))) (den_eq (den_opI (den_lenL (den_var rfl)) (den_lenL (den_var rfl))) (by rw [List.length_map, List.length_map]))) ?_))
  refine dens_seq (ρ1 := [.sh (rRowZ w'), .sh (rI' ((w'.length : Int) - 1)), .sh (rRowZ (mobZ w')), .sh (rI' ((w'.length : Int) - ((mobZ w').length : Int))), .sh (rLst ((chT (axQ (mobZ w')).length (axP (mobZ w')) (axQ (mobZ w'))).map rRowZ)), .sh (rI' (difZ (mobZ w'))), .no, .no]) (dens_if (b := decide ((mobZ w').length % 2 = 1)) (dent_eq (dent_B (den_cmp (den_opC (den_lenL (den_var rfl)) (den_c _) (by show (0 : Int) < 2; decide)) (den_c _))) (by rw [List.length_map]; show decide (((mobZ w').length : Int) % 2 = 1) = _; exact decide_eq_decide.mpr (by omega))) (fun h => ?_) (fun h => ?_)) ?_
  · have h := of_decide_eq_true h
    have ep : axP (mobZ w') = axZ (mobZ w') 0 := if_pos h
    have eq : axQ (mobZ w') = axZ (mobZ w') 1 := if_pos h
    refine dens_seq (dens_set 4 (den_call ((axP (mobZ w'), axQ (mobZ w')), 1620, 60000000) (dena_cons (den_eq (den_call (mobZ w', 0) (dena_cons (den_var rfl) (dena_cons (den_c _) dena_nil)) ⟨by show (mobZ w').length ≤ 9; omega, by show 0 < 2; decide⟩) (by rw [ep])) (dena_cons (den_eq (den_call (mobZ w', 1) (dena_cons (den_var rfl) (dena_cons (den_c _) dena_nil)) ⟨by show (mobZ w').length ≤ 9; omega, by show 1 < 2; decide⟩) (by rw [eq])) dena_nil)) ⟨by show (axP (mobZ w')).length ≤ 9; omega, by show (axQ (mobZ w')).length < (axP (mobZ w')).length; omega, tP, tQ, bP, bQ, pot, by show 60000000 ≤ 90000000; decide⟩)) ?_
    refine dens_eq (dens_set 5 (den_un (den_eq (den_call (chT (axQ (mobZ w')).length (axP (mobZ w')) (axQ (mobZ w'))) (dena_cons (den_var rfl) dena_nil) ⟨ch, ca⟩) (congrArg rI' pq)))) ?_
    unfold difZ
    rw [if_pos h]; rfl
  · have h := of_decide_eq_false h
    have ep : axP (mobZ w') = axZ (mobZ w') 1 := if_neg h
    have eq : axQ (mobZ w') = axZ (mobZ w') 0 := if_neg h
    refine dens_seq (dens_set 4 (den_call ((axP (mobZ w'), axQ (mobZ w')), 1620, 60000000) (dena_cons (den_eq (den_call (mobZ w', 1) (dena_cons (den_var rfl) (dena_cons (den_c _) dena_nil)) ⟨by show (mobZ w').length ≤ 9; omega, by show 1 < 2; decide⟩) (by rw [ep])) (dena_cons (den_eq (den_call (mobZ w', 0) (dena_cons (den_var rfl) (dena_cons (den_c _) dena_nil)) ⟨by show (mobZ w').length ≤ 9; omega, by show 0 < 2; decide⟩) (by rw [eq])) dena_nil)) ⟨by show (axP (mobZ w')).length ≤ 9; omega, by show (axQ (mobZ w')).length < (axP (mobZ w')).length; omega, tP, tQ, bP, bQ, pot, by show 60000000 ≤ 90000000; decide⟩)) ?_
    refine dens_eq (dens_set 5 (den_eq (den_call (chT (axQ (mobZ w')).length (axP (mobZ w')) (axQ (mobZ w'))) (dena_cons (den_var rfl) dena_nil) ⟨ch, ca⟩) (congrArg rI' pq))) ?_
    unfold difZ
    rw [if_neg h]; rfl
  · refine dens_seq (dens_set 6 (p := rI' (onZ w')) (den_opI (den_var rfl) (den_call (lasZ (mobZ w'), M') (dena_cons (den_last (den_var rfl) (den_un (den_c _)) ?_) dena_nil) ⟨lL, tL, nL, b1, b2⟩))) (dens_seq (dens_set 7 (p := rI' (witZ w')) (den_opC (den_opI (den_opI (den_var rfl) (den_var rfl)) (den_var rfl)) (den_c _) (by show (2 : Int) ≠ 0; decide))) (dens_ret (den_of_F (denf_lst (ps := [rI' (witZ w'), rI' (onZ w'), rI' ((w'.length : Int) - 1 - onZ w' - witZ w')]) (dena_cons (den_var rfl) (dena_cons (den_var rfl) (dena_cons (den_opI (den_opI (den_var rfl) (den_var rfl)) (den_var rfl)) dena_nil)))))))
    rw [List.length_map, List.getElem?_map, chT_last]; rfl
abbrev s_is_side : Stmt := top 32
theorem sc_is_side : FnScope ["number"] ["number"] (defScope s_is_side) := ⟨rfl, rfl, rfl, by decide +kernel, rfl, by decide +kernel, by decide +kernel⟩
abbrev sp_is_side : Sp := SpF (α := Int) (fun _ => True) (fun n => [rI' n]) (fun n => rB (decide (1 ≤ n) && decide (n ≤ 9)))
theorem ok_is_side (T : At K mg "is_side" s_is_side ["number"]) (c_GREATEST_SIDE : Con1 mg "GREATEST_SIDE" (.int (9))) : Cal P w K mg base 33 "is_side" ["number"] sp_is_side := by
  refine T.cal fun f fd F => fun_pure F sc_is_side (fun _ => rfl) fun cdv A outer s H E hr => ⟨_, (pss_one (ps_ret (pe_chain op_le op_le pe_int (pv 0) (pe_con1 c_GREATEST_SIDE rfl)))), ?_⟩
  rintro n -
  exact dens_ret (den_chain (den_c _) (den_var rfl) (den_c _))
abbrev s_is_matrix : Stmt := top 33
theorem sc_is_matrix : FnScope ["numbers", "k"] ["numbers"] (defScope s_is_matrix) := ⟨rfl, rfl, rfl, by decide +kernel, rfl, by decide +kernel, by decide +kernel⟩
abbrev sp_is_matrix (K : PySem.W.Frag) /-K-/ : Sp := SpF (α := List Int) (fun l => l.length ≤ 1000) (fun l => [rArg K l]) (fun l => rB (ShMatSeed.matOf l).isSome)
theorem ok_is_matrix (T : At K mg "is_matrix" s_is_matrix ["numbers"]) (C_is_side : Cal P w K mg base 33 "is_side" ["number"] sp_is_side) (h_range : mg "range" = none) (h_len : mg "len" = none) (c_BOUND : Con1 mg "BOUND" (.int (10000000000000000000000000000000000000000))) : Cal P w K mg base 34 "is_matrix" ["numbers"] (sp_is_matrix K) := by
  refine T.cal fun f fd F => fun_pure F sc_is_matrix (fun _ => rfl) fun cdv A outer s H E hr => ⟨_, (pss_cons (ps_if (PW.pt (pw_or (pt_cmp (pc_lt (pe_callB (call_lenK (K := K) rfl) rfl h_len PySem.boot_len (pa_cons (pv 0) pa_nil)) pe_int)) (pw_or (pt_not (pt_val (pe_cal C_is_side (hr.mono (by decide)) rfl (pa_cons (pe_ix (ix_seqK (K := K) rfl) (pv 0) pe_int (fun _ _ => rfl)) pa_nil)))) (pw_or1 (pt_not (pt_val (pe_cal C_is_side (hr.mono (by decide)) rfl (pa_cons (pe_ix (ix_seqK (K := K) rfl) (pv 0) pe_int (fun _ _ => rfl)) pa_nil)))))))) (pss_one (ps_ret pe_bl)) pss_nil)
      (pss_cons (ps_if (pt_cmp (pc_neI (pe_callB (call_lenK (K := K) rfl) rfl h_len PySem.boot_len (pa_cons (pv 0) pa_nil)) (pe_op op_add pe_int (pe_op op_mulK (pe_op op_mulK pe_int (pe_ix (ix_seqK (K := K) rfl) (pv 0) pe_int (fun _ _ => rfl))) (pe_ix (ix_seqK (K := K) rfl) (pv 0) pe_int (fun _ _ => rfl)))))) (pss_one (ps_ret pe_bl)) pss_nil)
      (pss_cons (ps_for PassesOwn.never rfl (pi_range3 rfl h_range (pa_cons pe_int (pa_cons (pe_callB (call_lenK (K := K) rfl) rfl h_len PySem.boot_len (pa_cons (pv 0) pa_nil)) (pa_cons pe_int pa_nil)))) (pg_name (i := 1) sc_is_matrix.nd rfl (by first | exact Or.inl rfl | exact Or.inr rfl)) (pss_one (ps_if (PW.pt (pw_or (pt_not (pt_chain op_lt op_lt (pe_un un_neg (pe_con1 c_BOUND rfl)) (pe_ix (ix_seqK (K := K) rfl) (pv 0) (pv 1) (fun _ _ => rfl)) (pe_con1 c_BOUND rfl))) (pw_or1 (pt_not (pt_chain op_le op_lt pe_int (pe_ix (ix_seqK (K := K) rfl) (pv 0) (pe_op op_add (pv 1) pe_int) (fun _ _ => rfl)) (pe_con1 c_BOUND rfl)))))) (pss_one (ps_ret pe_bl)) pss_nil)))
      (pss_one (ps_ret pe_bl))))), ?_⟩
  intro l hl
  have hl : l.length ≤ 1000 := hl
  by_cases h2 : l.length < 2
  · have e : decide ((l.length : Int) < 2) = true := decide_eq_true (by omega)
    refine dens_ifr (b := true) (dent_eq (dent_or (b := true) (dent_B (den_cmp (den_lenA (den_var rfl)) (den_c _))) (fun h => absurd (e.symm.trans h) (by decide))) (by rw [e]; rfl)) (fun _ => dens_ret (den_eq (den_c _) ?_)) (fun h => by cases h)
    have : ShMatSeed.matOf l = none := matOf_no1 fun ⟨n, m, r, e, _⟩ => by rw [e] at h2; simp only [List.length_cons] at h2; omega
    rw [this]; rfl
  · obtain ⟨n, m, r, rfl⟩ : ∃ n m r, l = n :: m :: r := by
      match l, h2 with
      | n :: m :: r, _ => exact ⟨n, m, r, rfl⟩
      | [], h => exact absurd (by simp) h
      | [_], h => exact absurd (by simp) h
    have c1 : DenT _ (rho0 ["numbers", "k"] [rArg K (n :: m :: r)]) _ := dent_or (dent_B (den_cmp (p := fun i j => decide (i < j)) (den_lenA (K := K) (den_var (i := 0) rfl)) (den_c (.int 2)))) (fun _ => dent_or (dent_not (dent_B (den_call (E := E0) (res := fun n => rB (decide (1 ≤ n) && decide (n ≤ 9))) (pre := fun _ => True) (args := fun n => [rI' n]) n (dena_cons (den_ixA (K := K) (den_var (i := 0) rfl) (den_c (.int 0)) (by decide) rfl) dena_nil) trivial))) (fun _ => dent_not (dent_B (den_call (E := E0) (res := fun n => rB (decide (1 ≤ n) && decide (n ≤ 9))) (pre := fun _ => True) (args := fun n => [rI' n]) m (dena_cons (den_ixA (K := K) (den_var (i := 0) rfl) (den_c (.int 1)) (by decide) rfl) dena_nil) trivial))))
    have e0 : decide (((n :: m :: r).length : Int) < 2) = false := decide_eq_false (by omega)
    refine dens_ifr c1 (fun h => dens_ret (den_eq (den_c _) ?_)) (fun h => ?_)
    · have : ShMatSeed.matOf (n :: m :: r) = none := matOf_no1 fun ⟨n', m', r', e, s1, s2⟩ => by
        cases e
        rw [e0, decide_eq_true s1.1, decide_eq_true s1.2, decide_eq_true s2.1, decide_eq_true s2.2] at h
        exact absurd h (by decide)
      rw [this]; rfl
    · have sn : side n ∧ side m := by
        simp only [Bool.or_eq_false_iff, Bool.not_eq_false', Bool.and_eq_true, decide_eq_true_eq] at h
        exact ⟨h.2.1, h.2.2⟩
      obtain ⟨hn, hm⟩ := sn
      have i1 : IntMulOk 2 n := IntMulOk.of_left (by decide)
      have i2 : IntMulOk (2 * n) m := IntMulOk.of_right (intBits_le_64 (by have := hm.1; omega) (by have := hm.2; omega))
      refine dens_ifr (dent_B (den_cmp (den_lenA (den_var rfl)) (den_opI (den_c _) (den_opC (den_opC (den_c _) (den_ixA (den_var rfl) (den_c _) (by decide) rfl) i1) (den_ixA (den_var rfl) (den_c _) (by decide) rfl) i2)))) (fun h => dens_ret (den_eq (den_c _) ?_)) (fun h => ?_)
      · have : ShMatSeed.matOf (n :: m :: r) = none := matOf_no2 hn hm (by simpa using h)
        rw [this]; rfl
      · have hle : ((n :: m :: r).length : Int) = 2 + 2 * n * m := by simpa using h
        have hq : r.length = 2 * (n.toNat * m.toNat) := by
          have e1 : ((n.toNat * m.toNat : Nat) : Int) = n * m := by
            have := hn.1; have := hm.1
            rw [Int.natCast_mul, Int.toNat_of_nonneg (by omega), Int.toNat_of_nonneg (by omega)]
          have e2 : 2 * n * m = 2 * (n * m) := by rw [Int.mul_assoc]
          simp only [List.length_cons] at hle
          omega
        have hrg : RgC 2 ((n :: m :: r).length : Int) 2 (n.toNat * m.toNat) := by
          have e1 : ((n :: m :: r).length : Int) = 2 + 2 * ((n.toNat * m.toNat : Nat) : Int) := by
            simp only [List.length_cons]; omega
          rw [e1]
          refine rgc (by decide) (by decide) (by decide) ?_
          simp only [List.length_cons] at hl
          omega
        have tst : ∀ (i : Nat) (p q : Int), r[2 * i]? = some p → r[2 * i + 1]? = some q → DenT (tOr (tNot (tTest (tChain (rI0 fun x y => .bl (decide (x < y))) (rI0 fun x y => .bl (decide (x < y))) (tUn (rU fun i => .int (-i)) (tC (.int BB))) (tOp (rIx K) (tVar 0) (tVar 1)) (tC (.int BB))))) (tNot (tTest (tChain (rI0 fun x y => .bl (decide (x ≤ y))) (rI0 fun x y => .bl (decide (x < y))) (tC (.int 1)) (tOp (rIx K) (tVar 0) (tOp (rI0 fun i j => .int (i + j)) (tVar 1) (tC (.int 1)))) (tC (.int BB)))))) [.sh (rArg K (n :: m :: r)), .sh (rI' (2 + (i : Int) * 2))] (!decide (okq p q)) := fun i p q hp hq' => by
          refine dent_eq (dent_or (dent_not (dent_Test (den_chain (den_un (den_c _)) (den_ixA (n := p) (den_var rfl) (den_var rfl) (by omega) ?_) (den_c _)))) (fun _ => dent_not (dent_Test (den_chain (den_c _) (den_ixA (n := q) (den_var rfl) (den_opI (den_var rfl) (den_c _)) (by show (0 : Int) ≤ 2 + (i : Int) * 2 + 1; omega) ?_) (den_c _))))) (okB p q)
          · rw [show ((2 : Int) + (i : Int) * 2).toNat = 2 * i + 1 + 1 by omega]; simpa using hp
          · rw [show ((2 : Int) + (i : Int) * 2 + 1).toNat = 2 * i + 1 + 1 + 1 by omega]; simpa using hq'
        cases e : ShMatSeed.quotients r with
        | some s =>
          obtain ⟨q1, q2⟩ := quot_some r s e
          refine dens_seq (dens_for (vs := [1]) (fun _ => [.sh (rArg K (n :: m :: r)), .no]) (deni_rng3 (dena_cons (den_c _) (dena_cons (den_lenA (den_var rfl)) (dena_cons (den_c _) dena_nil))) hrg) fun i hi => ?_) (dens_ret (den_eq (den_c _) ?_))
          · obtain ⟨p, q, a1, a2, a3, _⟩ := q2 i (by omega)
            exact ⟨_, _, deng_name 1, dens_if (tst i p q a1 a2) (fun h => by rw [decide_eq_true a3] at h; cases h) (fun _ => dens_next), rfl⟩
          · rw [matOf_eq hn hm hle, e]; rfl
        | none =>
          obtain ⟨j, hj, p, q, b1, b2, b3, b4⟩ := quot_none r _ hq e
          have er : ShMatSeed.matOf (n :: m :: r) = none := by rw [matOf_eq hn hm hle, e]; rfl
          rw [er]
          refine dens_seqR (dens_forR (vs := [1]) (fun _ => [.sh (rArg K (n :: m :: r)), .no]) j hj (deni_rng3 (dena_cons (den_c _) (dena_cons (den_lenA (den_var rfl)) (dena_cons (den_c _) dena_nil))) hrg) (fun i hi => ?_) ⟨_, deng_name 1, dens_if (tst j p q b1 b2) (fun _ => dens_ret (den_c _)) (fun h => by rw [decide_eq_false b3] at h; cases h)⟩)
          obtain ⟨p, q, a1, a2, a3⟩ := b4 i hi
          exact ⟨_, _, deng_name 1, dens_if (tst i p q a1 a2) (fun h => by rw [decide_eq_true a3] at h; cases h) (fun _ => dens_next), rfl⟩
abbrev s_row_from : Stmt := top 34
theorem sc_row_from : FnScope ["numbers", "start", "columns", "k"] ["numbers", "start", "columns"] (defScope s_row_from) := ⟨rfl, rfl, rfl, by decide +kernel, rfl, by decide +kernel, by decide +kernel⟩
abbrev sp_row_from (K : PySem.W.Frag) /-K-/ : Sp := SpF (α := List Int × Mat × Nat × Nat × List Rat × Nat) (fun x => Told x.1 x.2.1 x.2.2.1 x.2.2.2.1 x.2.2.2.2.1 ∧ x.2.2.2.2.2 < x.2.2.1) (fun x => [rArg K x.1, rI' (2 + (x.2.2.2.2.2 : Int) * (2 * (x.2.2.2.1 : Int))), rI' (x.2.2.2.1 : Int)]) (fun x => rRow ((List.range x.2.2.2.1).map fun j => at_ x.2.1 x.2.2.2.2.2 j))
theorem ok_row_from (T : At K mg "row_from" s_row_from ["numbers", "start", "columns"]) (C_lowest : Cal P w K mg base 34 "lowest" ["top", "bottom"] sp_lowest) (h_range : mg "range" = none) : Cal P w K mg base 35 "row_from" ["numbers", "start", "columns"] (sp_row_from K) := by
  refine T.cal fun f fd F => fun_pure F sc_row_from (fun _ => rfl) fun cdv A outer s H E hr => ⟨_, (pss_one (ps_ret (pe_lc rfl sc_row_from.nd (pi_range3 rfl h_range (pa_cons (pv 1) (pa_cons (pe_op op_add (pv 1) (pe_op op_mulK pe_int (pv 2))) (pa_cons pe_int pa_nil)))) (blkOk_by (N := ["numbers", "start", "columns", "k"]) (sc := defScope s_row_from) (own := [("k", 3)]) (by decide +kernel)) (fun _ _ _ _ _ => (pg_name (i := 3) sc_row_from.nd rfl (by first | exact Or.inl rfl | exact Or.inr rfl))) (fun _ _ _ _ _ => pts_nil) (fun _ _ _ _ _ => (pe_cal C_lowest (hr.mono (by decide)) rfl (pa_cons (pe_ix (ix_seqK (K := K) rfl) (pv 0) (pv 3) (fun _ _ => rfl)) (pa_cons (pe_ix (ix_seqK (K := K) rfl) (pv 0) (pe_op op_add (pv 3) pe_int) (fun _ _ => rfl)) pa_nil))))))), ?_⟩
  rintro ⟨l, a, n, m, r, i⟩ ⟨h, hi⟩
  have hi : i < n := hi
  have h9 : m ≤ 9 := h.m9
  have hn9 : n ≤ 9 := h.n9
  have eim : (2 : Int) + (i : Int) * (2 * (m : Int)) = 2 + 2 * ((i * m : Nat) : Int) := by
    rw [Int.natCast_mul]
    have : (i : Int) * (2 * (m : Int)) = 2 * ((i : Int) * (m : Int)) := by rw [Int.mul_left_comm]
    omega
  have him : i * m ≤ 81 := Nat.le_trans (Nat.mul_le_mul (show i ≤ 9 by omega) h9) (by decide)
  refine dens_ret (den_eq (den_of_F (denf_map (fun j => rQ (at_ a i j)) (deni_rng3 (n := m) (dena_cons (den_var rfl) (dena_cons (den_opI (den_var rfl) (den_opC (den_c _) (den_var rfl) (IntMulOk.of_left (by decide)))) (dena_cons (den_c _) dena_nil))) (rgc (by show (0 : Int) ≤ 2 + (i : Int) * (2 * (m : Int)); rw [eim]; omega) (by decide) (by decide) (by show (2 : Int) + (i : Int) * (2 * (m : Int)) + 2 * (m : Int) < 1000000000000; rw [eim]; omega))) (Nat.le_trans h9 (by decide)) fun j hj => ⟨_, deng_name 3, ?_⟩)) (rRow_make _ _).symm)
  obtain ⟨p, q, h1, h2, h3, h4⟩ := h.cell hi hj
  refine den_eq (den_call (p, q) (dena_cons (den_ixA (n := p) (den_var rfl) (den_var rfl) (by show (0 : Int) ≤ 2 + (i : Int) * (2 * (m : Int)) + (j : Int) * 2; rw [eim]; omega) ?_) (dena_cons (den_ixA (n := q) (den_var rfl) (den_opI (den_var rfl) (den_c _)) (by show (0 : Int) ≤ 2 + (i : Int) * (2 * (m : Int)) + (j : Int) * 2 + 1; rw [eim]; omega) ?_) dena_nil)) (by have := h3.1; show q ≠ 0; omega)) (by rw [h4])
  · rw [eim, show ((2 : Int) + 2 * ((i * m : Nat) : Int) + (j : Int) * 2).toNat = 2 + 2 * (i * m + j) by omega]; exact h1
  · rw [eim, show ((2 : Int) + 2 * ((i * m : Nat) : Int) + (j : Int) * 2 + 1).toNat = 2 + 2 * (i * m + j) + 1 by omega]; exact h2
abbrev s_matrix_from : Stmt := top 35
theorem sc_matrix_from : FnScope ["numbers", "columns", "start"] ["numbers"] (defScope s_matrix_from) := ⟨rfl, rfl, rfl, by decide +kernel, rfl, by decide +kernel, by decide +kernel⟩
abbrev sp_matrix_from (K : PySem.W.Frag) /-K-/ : Sp := SpF (α := List Int × Mat) (fun x => ShMatSeed.matOf x.1 = some x.2) (fun x => [rArg K x.1]) (fun x => rMat x.2)
theorem ok_matrix_from (T : At K mg "matrix_from" s_matrix_from ["numbers"]) (C_row_from : Cal P w K mg base 35 "row_from" ["numbers", "start", "columns"] (sp_row_from K)) (h_range : mg "range" = none) (h_len : mg "len" = none) : Cal P w K mg base 36 "matrix_from" ["numbers"] (sp_matrix_from K) := by
  refine T.cal fun f fd F => fun_pure F sc_matrix_from (fun _ => rfl) fun cdv A outer s H E hr => ⟨_, (pss_cons (ps_set (i := 1) sc_matrix_from.nd rfl (by first | exact Or.inl rfl | exact Or.inr rfl) (pe_ix (ix_seqK (K := K) rfl) (pv 0) pe_int (fun _ _ => rfl)))
      (pss_one (ps_ret (pe_lc rfl sc_matrix_from.nd (pi_range3 rfl h_range (pa_cons pe_int (pa_cons (pe_callB (call_lenK (K := K) rfl) rfl h_len PySem.boot_len (pa_cons (pv 0) pa_nil)) (pa_cons (pe_op op_mulK pe_int (pv 1)) pa_nil)))) (blkOk_by (N := ["numbers", "columns", "start"]) (sc := defScope s_matrix_from) (own := [("start", 2)]) (by decide +kernel)) (fun _ _ _ _ _ => (pg_name (i := 2) sc_matrix_from.nd rfl (by first | exact Or.inl rfl | exact Or.inr rfl))) (fun _ _ _ _ _ => pts_nil) (fun _ _ _ _ _ => (pe_cal C_row_from (hr.mono (by decide)) rfl (pa_cons (pv 0) (pa_cons (pv 2) (pa_cons (pv 1) pa_nil))))))))), ?_⟩
  rintro ⟨l, a⟩ h
  obtain ⟨n, m, r, h, _⟩ := told (show ShMatSeed.matOf l = some a from h)
  have h9 : m ≤ 9 := h.m9
  have hn9 : n ≤ 9 := h.n9
  have m0 : 1 ≤ m := h.wf.m0
  have el : (l.length : Int) = 2 + (2 * (m : Int)) * (n : Int) := by
    rw [h.len, Int.mul_assoc, Int.mul_comm (m : Int)]; simp
  have hb : (2 * (m : Int)) * (n : Int) ≤ 162 := by
    have : m * n ≤ 81 := Nat.mul_le_mul h9 hn9
    have : ((m * n : Nat) : Int) ≤ 81 := by omega
    rw [Int.mul_assoc, ← Int.natCast_mul]; omega
  refine dens_seq (dens_set 1 (den_ixA (den_var rfl) (den_c _) (by decide) h.l1)) ?_
  refine dens_ret (den_eq (den_of_F (denf_map (fun i => rRow ((List.range m).map fun j => at_ a i j)) (deni_rng3 (n := n) (dena_cons (den_c _) (dena_cons (den_lenA (den_var rfl)) (dena_cons (den_opC (den_c _) (den_var rfl) (IntMulOk.of_left (by decide))) dena_nil))) (by rw [el]; exact rgc (by decide) (by omega) (by omega) (by omega))) (Nat.le_trans hn9 (by decide)) fun i hi => ⟨_, deng_name 2, ?_⟩)) ?_)
  · exact den_call (l, a, n, m, r, i) (dena_cons (den_var rfl) (dena_cons (den_var rfl) (dena_cons (den_var rfl) dena_nil))) ⟨h, hi⟩
  · show _ = rMat a
    conv => rhs; rw [h.wf.eq_make]
    rw [rMat_make]
abbrev s_circle : Stmt := top 40
theorem sc_circle : FnScope ["f", "row", "x"] ["f"] (defScope s_circle) := ⟨rfl, rfl, rfl, by decide +kernel, rfl, by decide +kernel, by decide +kernel⟩
abbrev sp_circle (K : PySem.W.Frag) /-K-/ : Sp := SpN (α := List Int) (fun x => x.length ≤ 300) (fun x => [rArg K x]) (fun x => (PyWqadbm.circle x).map rI')
theorem head_rowC {m : Nat} {x : Mat} (h : Wf 1 m x) : x.headD [] = (List.range m).map fun j => at_ x 0 j := by
  have e := h.at_row (i := 0) (by decide)
  rw [List.headD_eq_head?_getD, List.head?_eq_getElem?, e]; rfl
theorem ok_circle (T : At K mg "circle" s_circle ["f"]) (C_matrix_from : Cal P w K mg base 36 "matrix_from" ["numbers"] (sp_matrix_from K)) (C_polynomial_from : Cal P w K mg base 36 "polynomial_from" ["row"] (sp_polynomial_from CPolynomial)) (C_is_matrix : Cal P w K mg base 34 "is_matrix" ["numbers"] (sp_is_matrix K)) (C_counts_by_circle : Cal P w K mg base 38 "counts_by_circle" ["f"] sp_counts_by_circle) (h_len : mg "len" = none) (c_NO_MATRIX : Con1 mg "NO_MATRIX" (.int (-6))) (c_NOT_FIT : Con1 mg "NOT_FIT" (.int (-1))) (c_NO_ANSWER : Con1 mg "NO_ANSWER" (.int (-4))) (c_Polynomial : KlsPolynomial P w K mg base CPolynomial) (c_Division : KlsDivision P w K mg base CDivision) : Cal P w K mg base 39 "circle" ["f"] (sp_circle K) := by
  refine T.cal fun f fd F => fun_new F sc_circle (fun _ => rfl) fun cdv A outer s H E hr => ⟨_, (pss_cons (ps_if (pt_not (pt_val (pe_cal C_is_matrix (hr.mono (by decide)) rfl (pa_cons (pv 0) pa_nil)))) (pss_one (ps_ret (pe_lst (pa_cons (pe_con1 c_NO_MATRIX rfl) pa_nil)))) pss_nil)
      (pss_cons (ps_set (i := 1) sc_circle.nd rfl (by first | exact Or.inl rfl | exact Or.inr rfl) (pe_cal C_matrix_from (hr.mono (by decide)) rfl (pa_cons (pv 0) pa_nil)))
      (pss_cons (ps_if (pt_cmp (pc_gt (pe_callB (call_lenK (K := K) rfl) rfl h_len PySem.boot_len (pa_cons (pv 1) pa_nil)) pe_int)) (pss_one (ps_ret (pe_lst (pa_cons (pe_con1 c_NOT_FIT rfl) pa_nil)))) pss_nil)
      (pss_cons (ps_set (i := 2) sc_circle.nd rfl (by first | exact Or.inl rfl | exact Or.inr rfl) (pe_cal C_polynomial_from (hr.mono (by decide)) rfl (pa_cons (pe_ix (ix_seqK (K := K) rfl) (pv 1) pe_int (fun _ _ => rfl)) pa_nil)))
      (pss_cons (ps_if (pt_cmpR (op_eqD hr.units) (pe_fldK (K := K) rfl (pv 2) rfl) (pe_lst pa_nil) (nomark _)) (pss_one (ps_ret (pe_lst (pa_cons (pe_con1 c_NO_ANSWER rfl) pa_nil)))) pss_nil)
      (pss_one (ps_ret (pe_op op_cat (pe_lst (pa_cons pe_int pa_nil)) (pe_cal C_counts_by_circle (hr.mono (by decide)) rfl (pa_cons (pe_fldK (K := K) rfl (pv 2) rfl) pa_nil)))))))))), ?_⟩
  intro a hla
  have hla : a.length ≤ 300 := hla
  refine dens_eq ?_ (congrArg (fun z => Out.rtF (List.map rI' z)) (show ShMatSeed.with1 a (fun x => if ShMat.rows x ≠ 1 then ShMatSeed.no 1 else if ShMat.trim (x.headD []) = [] then ShMatSeed.no 4 else ShMatSeed.tells [((ShMat.circle (x.headD [])).1 : Int), ((ShMat.circle (x.headD [])).2.1 : Int), ((ShMat.circle (x.headD [])).2.2 : Int)]) = PyWqadbm.circle a from rfl))
  unfold ShMatSeed.with1
  refine dens_ifrF (dent_not (dent_B (den_call a (dena_cons (den_var rfl) dena_nil) (by show a.length ≤ 1000; omega)))) (fun h => ?_) (fun h => ?_)
  · refine dens_eq (dens_retF (denf_lst (dena_cons (den_c _) dena_nil))) ?_
    cases ea : ShMatSeed.matOf a with
    | none => rfl
    | some x => rw [ea] at h; simp at h
  · cases ea : ShMatSeed.matOf a with
    | none => rw [ea] at h; simp at h
    | some x =>
      obtain ⟨n, m, _, tx, bx⟩ := told ea
      have n1 : 1 ≤ n := tx.wf.n0
      have m9 : m ≤ 9 := tx.m9
      have lx : (x.map rRow).length = n := by rw [List.length_map, tx.wf.len]
      refine dens_seq (dens_set 1 (den_call (a, x) (dena_cons (den_var rfl) dena_nil) ea)) ?_
      dsimp only
      refine dens_ifrF (b := decide (ShMat.rows x ≠ 1)) (dent_eq (dent_B (den_cmp (den_lenL (den_var rfl)) (den_c _))) (by rw [lx, tx.wf.rows]; exact decide_eq_decide.mpr (by omega))) (fun h => ?_) (fun h => ?_)
      · refine dens_eq (dens_retF (denf_lst (dena_cons (den_c _) dena_nil))) ?_
        rw [if_pos (of_decide_eq_true h)]; rfl
      · have h := of_decide_eq_false h
        rw [if_neg h]
        rw [tx.wf.rows] at h
        have e1 : n = 1 := by omega
        subst e1
        have wx : Wf 1 m x := tx.wf
        rw [head_rowC wx]
        have bb : ∀ i, i < m → Bd 133 (at_ x 0 i) := fun i hi => bx.at wx (by decide) hi
        have ox : PlOk (wP m fun j => at_ x 0 j) ((scT (fun j => at_ x 0 j) m : Nat) : Int) := wP_ok m9 bb
        have rx := wP_toR m fun j => at_ x 0 j
        have hnil : ShMat.trim ((List.range m).map fun j => at_ x 0 j) = [] ↔ (wP m fun j => at_ x 0 j) = [] := by rw [← rx]; exact toR_nil
        refine dens_seq (dens_set 2 (den_call (m, fun j => at_ x 0 j) (dena_cons (den_ixL (den_var rfl) (den_c _) (by decide) (rowIx wx (by decide))) dena_nil) ⟨m9, bb⟩)) ?_
        dsimp only
        generalize (wP m fun j => at_ x 0 j) = fw at ox rx hnil ⊢
        generalize ((scT (fun j => at_ x 0 j) m : Nat) : Int) = fs at ox rx ⊢
        generalize ((List.range m).map fun j => at_ x 0 j) = p at rx hnil ⊢
        refine dens_ifrF (b := decide (ShMat.trim p = [])) (dent_eq (dent_Test (den_isNil (den_f1 (den_var rfl) c_Polynomial.cl (c_Polynomial.no "whole" (by simp))))) (decide_eq_decide.mpr hnil.symm)) (fun h => ?_) (fun h => ?_)
        · refine dens_eq (dens_retF (denf_lst (dena_cons (den_c _) dena_nil))) ?_
          rw [if_pos (of_decide_eq_true h)]; rfl
        · have h := of_decide_eq_false h
          rw [if_neg h]
          have nf : fw ≠ [] := fun z => h (hnil.mpr z)
          have fs0 := cast_ne ox.s0
          have key := counts_ok (x := p) (w := fw) (κ := 1 / (fs : Rat)) ox.tr h (fun z => by have := inv_ne fs0; rw [z, Rat.mul_zero] at this; exact absurd this (by decide)) (fun i => by
            rw [← rx, co_toR]
            unfold cz
            rw [Rat.div_def, Rat.div_def]; grind)
          refine dens_eq (dens_retF (denf_cat (ps := [rI' 0]) (qs := (cntZ fw).map rI') (den_of_F (denf_lst (dena_cons (den_c _) dena_nil))) (den_call fw (dena_cons (den_f1 (den_var rfl) c_Polynomial.cl (c_Polynomial.no "whole" (by simp))) dena_nil) ⟨ox.len, ox.tr, nf, ox.bd⟩) (by rw [List.length_map]; show 1 + 3 ≤ sizeLine; decide))) ?_
          rw [key]; rfl
end
theorem all_mk {P : Program} {w : World} {K : PySem.W.Frag} {h : Heap} {mg : Str → Option Value} {fa : Addr} (X : K.In h) (G : h.Ns mainGlobals mg) (hfa : mg "circle" = some (.ref fa)) (h_tree : P.given.tree = none)
    {f_common_divisor : Addr} {oc_common_divisor kV_common_divisor dc_common_divisor pm_common_divisor cd_common_divisor ct_common_divisor : Value} {od_common_divisor an_common_divisor : Option Addr} {sl_common_divisor : Array (Option Value)}
    {f_common_multiple : Addr} {oc_common_multiple kV_common_multiple dc_common_multiple pm_common_multiple cd_common_multiple ct_common_multiple : Value} {od_common_multiple an_common_multiple : Option Addr} {sl_common_multiple : Array (Option Value)}
    {f_lowest : Addr} {oc_lowest kV_lowest dc_lowest pm_lowest cd_lowest ct_lowest : Value} {od_lowest an_lowest : Option Addr} {sl_lowest : Array (Option Value)}
    {f_scale_of : Addr} {oc_scale_of kV_scale_of dc_scale_of pm_scale_of cd_scale_of ct_scale_of : Value} {od_scale_of an_scale_of : Option Addr} {sl_scale_of : Array (Option Value)}
    {f_whole_row : Addr} {oc_whole_row kV_whole_row dc_whole_row pm_whole_row cd_whole_row ct_whole_row : Value} {od_whole_row an_whole_row : Option Addr} {sl_whole_row : Array (Option Value)}
    {f_grown_row : Addr} {oc_grown_row kV_grown_row dc_grown_row pm_grown_row cd_grown_row ct_grown_row : Value} {od_grown_row an_grown_row : Option Addr} {sl_grown_row : Array (Option Value)}
    {f_shrunk_row : Addr} {oc_shrunk_row kV_shrunk_row dc_shrunk_row pm_shrunk_row cd_shrunk_row ct_shrunk_row : Value} {od_shrunk_row an_shrunk_row : Option Addr} {sl_shrunk_row : Array (Option Value)}
    {f_row_divisor : Addr} {oc_row_divisor kV_row_divisor dc_row_divisor pm_row_divisor cd_row_divisor ct_row_divisor : Value} {od_row_divisor an_row_divisor : Option Addr} {sl_row_divisor : Array (Option Value)}
    {f_trimmed : Addr} {oc_trimmed kV_trimmed dc_trimmed pm_trimmed cd_trimmed ct_trimmed : Value} {od_trimmed an_trimmed : Option Addr} {sl_trimmed : Array (Option Value)}
    {f_coefficient : Addr} {oc_coefficient kV_coefficient dc_coefficient pm_coefficient cd_coefficient ct_coefficient : Value} {od_coefficient an_coefficient : Option Addr} {sl_coefficient : Array (Option Value)}
    {f_whole_sum : Addr} {oc_whole_sum kV_whole_sum dc_whole_sum pm_whole_sum cd_whole_sum ct_whole_sum : Value} {od_whole_sum an_whole_sum : Option Addr} {sl_whole_sum : Array (Option Value)}
    {f_whole_multiplied : Addr} {oc_whole_multiplied kV_whole_multiplied dc_whole_multiplied pm_whole_multiplied cd_whole_multiplied ct_whole_multiplied : Value} {od_whole_multiplied an_whole_multiplied : Option Addr} {sl_whole_multiplied : Array (Option Value)}
    {f_divided : Addr} {oc_divided kV_divided dc_divided pm_divided cd_divided ct_divided : Value} {od_divided an_divided : Option Addr} {sl_divided : Array (Option Value)}
    {f_without_content : Addr} {oc_without_content kV_without_content dc_without_content pm_without_content cd_without_content ct_without_content : Value} {od_without_content an_without_content : Option Addr} {sl_without_content : Array (Option Value)}
    {f_polynomial_from : Addr} {oc_polynomial_from kV_polynomial_from dc_polynomial_from pm_polynomial_from cd_polynomial_from ct_polynomial_from : Value} {od_polynomial_from an_polynomial_from : Option Addr} {sl_polynomial_from : Array (Option Value)}
    {f_in_half_plane : Addr} {oc_in_half_plane kV_in_half_plane dc_in_half_plane pm_in_half_plane cd_in_half_plane ct_in_half_plane : Value} {od_in_half_plane an_in_half_plane : Option Addr} {sl_in_half_plane : Array (Option Value)}
    {f_along_axis : Addr} {oc_along_axis kV_along_axis dc_along_axis pm_along_axis cd_along_axis ct_along_axis : Value} {od_along_axis an_along_axis : Option Addr} {sl_along_axis : Array (Option Value)}
    {f_chain : Addr} {oc_chain kV_chain dc_chain pm_chain cd_chain ct_chain : Value} {od_chain an_chain : Option Addr} {sl_chain : Array (Option Value)}
    {f_changes : Addr} {oc_changes kV_changes dc_changes pm_changes cd_changes ct_changes : Value} {od_changes an_changes : Option Addr} {sl_changes : Array (Option Value)}
    {f_poles : Addr} {oc_poles kV_poles dc_poles pm_poles cd_poles ct_poles : Value} {od_poles an_poles : Option Addr} {sl_poles : Array (Option Value)}
    {f_derived : Addr} {oc_derived kV_derived dc_derived pm_derived cd_derived ct_derived : Value} {od_derived an_derived : Option Addr} {sl_derived : Array (Option Value)}
    {f_real_roots : Addr} {oc_real_roots kV_real_roots dc_real_roots pm_real_roots cd_real_roots ct_real_roots : Value} {od_real_roots an_real_roots : Option Addr} {sl_real_roots : Array (Option Value)}
    {f_counts_by_circle : Addr} {oc_counts_by_circle kV_counts_by_circle dc_counts_by_circle pm_counts_by_circle cd_counts_by_circle ct_counts_by_circle : Value} {od_counts_by_circle an_counts_by_circle : Option Addr} {sl_counts_by_circle : Array (Option Value)}
    {f_is_side : Addr} {oc_is_side kV_is_side dc_is_side pm_is_side cd_is_side ct_is_side : Value} {od_is_side an_is_side : Option Addr} {sl_is_side : Array (Option Value)}
    {f_is_matrix : Addr} {oc_is_matrix kV_is_matrix dc_is_matrix pm_is_matrix cd_is_matrix ct_is_matrix : Value} {od_is_matrix an_is_matrix : Option Addr} {sl_is_matrix : Array (Option Value)}
    {f_row_from : Addr} {oc_row_from kV_row_from dc_row_from pm_row_from cd_row_from ct_row_from : Value} {od_row_from an_row_from : Option Addr} {sl_row_from : Array (Option Value)}
    {f_matrix_from : Addr} {oc_matrix_from kV_matrix_from dc_matrix_from pm_matrix_from cd_matrix_from ct_matrix_from : Value} {od_matrix_from an_matrix_from : Option Addr} {sl_matrix_from : Array (Option Value)}
    {f_circle : Addr} {oc_circle kV_circle dc_circle pm_circle cd_circle ct_circle : Value} {od_circle an_circle : Option Addr} {sl_circle : Array (Option Value)}
    {t_GREATEST_SIDE : Tok}
    {t_BOUND : Tok}
    {t_NO_MATRIX : Tok}
    {t_NOT_FIT : Tok}
    {t_NO_ANSWER : Tok}
    {CPolynomial fi_Polynomial : Addr} {oc_Polynomial kV_Polynomial dc_Polynomial pm_Polynomial cd_Polynomial ct_Polynomial : Value} {od_Polynomial an_Polynomial : Option Addr} {sl_Polynomial : Array (Option Value)}
    {CDivision fi_Division : Addr} {oc_Division kV_Division dc_Division pm_Division cd_Division ct_Division : Value} {od_Division an_Division : Option Addr} {sl_Division : Array (Option Value)}
    (a_common_divisor : PySem.W.nsIn K mainGlobals "common_divisor" = some (some (.ref f_common_divisor))) (l_common_divisor : K.lookup f_common_divisor = some ⟨oc_common_divisor, od_common_divisor, .func (PySem.W.fnOf "common_divisor" "common_divisor" (defArgs s_common_divisor) (defBody s_common_divisor) (defScope s_common_divisor) .none kV_common_divisor dc_common_divisor pm_common_divisor an_common_divisor cd_common_divisor ct_common_divisor), sl_common_divisor⟩) (e_common_divisor : PySem.W.codeIn K cd_common_divisor "common_divisor" = true) (k_common_divisor : PySem.W.keepIn K (.ref f_common_divisor) = true)
    (a_common_multiple : PySem.W.nsIn K mainGlobals "common_multiple" = some (some (.ref f_common_multiple))) (l_common_multiple : K.lookup f_common_multiple = some ⟨oc_common_multiple, od_common_multiple, .func (PySem.W.fnOf "common_multiple" "common_multiple" (defArgs s_common_multiple) (defBody s_common_multiple) (defScope s_common_multiple) .none kV_common_multiple dc_common_multiple pm_common_multiple an_common_multiple cd_common_multiple ct_common_multiple), sl_common_multiple⟩) (e_common_multiple : PySem.W.codeIn K cd_common_multiple "common_multiple" = true) (k_common_multiple : PySem.W.keepIn K (.ref f_common_multiple) = true)
    (a_lowest : PySem.W.nsIn K mainGlobals "lowest" = some (some (.ref f_lowest))) (l_lowest : K.lookup f_lowest = some ⟨oc_lowest, od_lowest, .func (PySem.W.fnOf "lowest" "lowest" (defArgs s_lowest) (defBody s_lowest) (defScope s_lowest) .none kV_lowest dc_lowest pm_lowest an_lowest cd_lowest ct_lowest), sl_lowest⟩) (e_lowest : PySem.W.codeIn K cd_lowest "lowest" = true) (k_lowest : PySem.W.keepIn K (.ref f_lowest) = true)
    (a_scale_of : PySem.W.nsIn K mainGlobals "scale_of" = some (some (.ref f_scale_of))) (l_scale_of : K.lookup f_scale_of = some ⟨oc_scale_of, od_scale_of, .func (PySem.W.fnOf "scale_of" "scale_of" (defArgs s_scale_of) (defBody s_scale_of) (defScope s_scale_of) .none kV_scale_of dc_scale_of pm_scale_of an_scale_of cd_scale_of ct_scale_of), sl_scale_of⟩) (e_scale_of : PySem.W.codeIn K cd_scale_of "scale_of" = true) (k_scale_of : PySem.W.keepIn K (.ref f_scale_of) = true)
    (a_whole_row : PySem.W.nsIn K mainGlobals "whole_row" = some (some (.ref f_whole_row))) (l_whole_row : K.lookup f_whole_row = some ⟨oc_whole_row, od_whole_row, .func (PySem.W.fnOf "whole_row" "whole_row" (defArgs s_whole_row) (defBody s_whole_row) (defScope s_whole_row) .none kV_whole_row dc_whole_row pm_whole_row an_whole_row cd_whole_row ct_whole_row), sl_whole_row⟩) (e_whole_row : PySem.W.codeIn K cd_whole_row "whole_row" = true) (k_whole_row : PySem.W.keepIn K (.ref f_whole_row) = true)
    (a_grown_row : PySem.W.nsIn K mainGlobals "grown_row" = some (some (.ref f_grown_row))) (l_grown_row : K.lookup f_grown_row = some ⟨oc_grown_row, od_grown_row, .func (PySem.W.fnOf "grown_row" "grown_row" (defArgs s_grown_row) (defBody s_grown_row) (defScope s_grown_row) .none kV_grown_row dc_grown_row pm_grown_row an_grown_row cd_grown_row ct_grown_row), sl_grown_row⟩) (e_grown_row : PySem.W.codeIn K cd_grown_row "grown_row" = true) (k_grown_row : PySem.W.keepIn K (.ref f_grown_row) = true)
    (a_shrunk_row : PySem.W.nsIn K mainGlobals "shrunk_row" = some (some (.ref f_shrunk_row))) (l_shrunk_row : K.lookup f_shrunk_row = some ⟨oc_shrunk_row, od_shrunk_row, .func (PySem.W.fnOf "shrunk_row" "shrunk_row" (defArgs s_shrunk_row) (defBody s_shrunk_row) (defScope s_shrunk_row) .none kV_shrunk_row dc_shrunk_row pm_shrunk_row an_shrunk_row cd_shrunk_row ct_shrunk_row), sl_shrunk_row⟩) (e_shrunk_row : PySem.W.codeIn K cd_shrunk_row "shrunk_row" = true) (k_shrunk_row : PySem.W.keepIn K (.ref f_shrunk_row) = true)
    (a_row_divisor : PySem.W.nsIn K mainGlobals "row_divisor" = some (some (.ref f_row_divisor))) (l_row_divisor : K.lookup f_row_divisor = some ⟨oc_row_divisor, od_row_divisor, .func (PySem.W.fnOf "row_divisor" "row_divisor" (defArgs s_row_divisor) (defBody s_row_divisor) (defScope s_row_divisor) .none kV_row_divisor dc_row_divisor pm_row_divisor an_row_divisor cd_row_divisor ct_row_divisor), sl_row_divisor⟩) (e_row_divisor : PySem.W.codeIn K cd_row_divisor "row_divisor" = true) (k_row_divisor : PySem.W.keepIn K (.ref f_row_divisor) = true)
    (a_trimmed : PySem.W.nsIn K mainGlobals "trimmed" = some (some (.ref f_trimmed))) (l_trimmed : K.lookup f_trimmed = some ⟨oc_trimmed, od_trimmed, .func (PySem.W.fnOf "trimmed" "trimmed" (defArgs s_trimmed) (defBody s_trimmed) (defScope s_trimmed) .none kV_trimmed dc_trimmed pm_trimmed an_trimmed cd_trimmed ct_trimmed), sl_trimmed⟩) (e_trimmed : PySem.W.codeIn K cd_trimmed "trimmed" = true) (k_trimmed : PySem.W.keepIn K (.ref f_trimmed) = true)
    (a_coefficient : PySem.W.nsIn K mainGlobals "coefficient" = some (some (.ref f_coefficient))) (l_coefficient : K.lookup f_coefficient = some ⟨oc_coefficient, od_coefficient, .func (PySem.W.fnOf "coefficient" "coefficient" (defArgs s_coefficient) (defBody s_coefficient) (defScope s_coefficient) .none kV_coefficient dc_coefficient pm_coefficient an_coefficient cd_coefficient ct_coefficient), sl_coefficient⟩) (e_coefficient : PySem.W.codeIn K cd_coefficient "coefficient" = true) (k_coefficient : PySem.W.keepIn K (.ref f_coefficient) = true)
    (a_whole_sum : PySem.W.nsIn K mainGlobals "whole_sum" = some (some (.ref f_whole_sum))) (l_whole_sum : K.lookup f_whole_sum = some ⟨oc_whole_sum, od_whole_sum, .func (PySem.W.fnOf "whole_sum" "whole_sum" (defArgs s_whole_sum) (defBody s_whole_sum) (defScope s_whole_sum) .none kV_whole_sum dc_whole_sum pm_whole_sum an_whole_sum cd_whole_sum ct_whole_sum), sl_whole_sum⟩) (e_whole_sum : PySem.W.codeIn K cd_whole_sum "whole_sum" = true) (k_whole_sum : PySem.W.keepIn K (.ref f_whole_sum) = true)
    (a_whole_multiplied : PySem.W.nsIn K mainGlobals "whole_multiplied" = some (some (.ref f_whole_multiplied))) (l_whole_multiplied : K.lookup f_whole_multiplied = some ⟨oc_whole_multiplied, od_whole_multiplied, .func (PySem.W.fnOf "whole_multiplied" "whole_multiplied" (defArgs s_whole_multiplied) (defBody s_whole_multiplied) (defScope s_whole_multiplied) .none kV_whole_multiplied dc_whole_multiplied pm_whole_multiplied an_whole_multiplied cd_whole_multiplied ct_whole_multiplied), sl_whole_multiplied⟩) (e_whole_multiplied : PySem.W.codeIn K cd_whole_multiplied "whole_multiplied" = true) (k_whole_multiplied : PySem.W.keepIn K (.ref f_whole_multiplied) = true)
    (a_divided : PySem.W.nsIn K mainGlobals "divided" = some (some (.ref f_divided))) (l_divided : K.lookup f_divided = some ⟨oc_divided, od_divided, .func (PySem.W.fnOf "divided" "divided" (defArgs s_divided) (defBody s_divided) (defScope s_divided) .none kV_divided dc_divided pm_divided an_divided cd_divided ct_divided), sl_divided⟩) (e_divided : PySem.W.codeIn K cd_divided "divided" = true) (k_divided : PySem.W.keepIn K (.ref f_divided) = true)
    (a_without_content : PySem.W.nsIn K mainGlobals "without_content" = some (some (.ref f_without_content))) (l_without_content : K.lookup f_without_content = some ⟨oc_without_content, od_without_content, .func (PySem.W.fnOf "without_content" "without_content" (defArgs s_without_content) (defBody s_without_content) (defScope s_without_content) .none kV_without_content dc_without_content pm_without_content an_without_content cd_without_content ct_without_content), sl_without_content⟩) (e_without_content : PySem.W.codeIn K cd_without_content "without_content" = true) (k_without_content : PySem.W.keepIn K (.ref f_without_content) = true)
    (a_polynomial_from : PySem.W.nsIn K mainGlobals "polynomial_from" = some (some (.ref f_polynomial_from))) (l_polynomial_from : K.lookup f_polynomial_from = some ⟨oc_polynomial_from, od_polynomial_from, .func (PySem.W.fnOf "polynomial_from" "polynomial_from" (defArgs s_polynomial_from) (defBody s_polynomial_from) (defScope s_polynomial_from) .none kV_polynomial_from dc_polynomial_from pm_polynomial_from an_polynomial_from cd_polynomial_from ct_polynomial_from), sl_polynomial_from⟩) (e_polynomial_from : PySem.W.codeIn K cd_polynomial_from "polynomial_from" = true) (k_polynomial_from : PySem.W.keepIn K (.ref f_polynomial_from) = true)
    (a_in_half_plane : PySem.W.nsIn K mainGlobals "in_half_plane" = some (some (.ref f_in_half_plane))) (l_in_half_plane : K.lookup f_in_half_plane = some ⟨oc_in_half_plane, od_in_half_plane, .func (PySem.W.fnOf "in_half_plane" "in_half_plane" (defArgs s_in_half_plane) (defBody s_in_half_plane) (defScope s_in_half_plane) .none kV_in_half_plane dc_in_half_plane pm_in_half_plane an_in_half_plane cd_in_half_plane ct_in_half_plane), sl_in_half_plane⟩) (e_in_half_plane : PySem.W.codeIn K cd_in_half_plane "in_half_plane" = true) (k_in_half_plane : PySem.W.keepIn K (.ref f_in_half_plane) = true)
    (a_along_axis : PySem.W.nsIn K mainGlobals "along_axis" = some (some (.ref f_along_axis))) (l_along_axis : K.lookup f_along_axis = some ⟨oc_along_axis, od_along_axis, .func (PySem.W.fnOf "along_axis" "along_axis" (defArgs s_along_axis) (defBody s_along_axis) (defScope s_along_axis) .none kV_along_axis dc_along_axis pm_along_axis an_along_axis cd_along_axis ct_along_axis), sl_along_axis⟩) (e_along_axis : PySem.W.codeIn K cd_along_axis "along_axis" = true) (k_along_axis : PySem.W.keepIn K (.ref f_along_axis) = true)
    (a_chain : PySem.W.nsIn K mainGlobals "chain" = some (some (.ref f_chain))) (l_chain : K.lookup f_chain = some ⟨oc_chain, od_chain, .func (PySem.W.fnOf "chain" "chain" (defArgs s_chain) (defBody s_chain) (defScope s_chain) .none kV_chain dc_chain pm_chain an_chain cd_chain ct_chain), sl_chain⟩) (e_chain : PySem.W.codeIn K cd_chain "chain" = true) (k_chain : PySem.W.keepIn K (.ref f_chain) = true)
    (a_changes : PySem.W.nsIn K mainGlobals "changes" = some (some (.ref f_changes))) (l_changes : K.lookup f_changes = some ⟨oc_changes, od_changes, .func (PySem.W.fnOf "changes" "changes" (defArgs s_changes) (defBody s_changes) (defScope s_changes) .none kV_changes dc_changes pm_changes an_changes cd_changes ct_changes), sl_changes⟩) (e_changes : PySem.W.codeIn K cd_changes "changes" = true) (k_changes : PySem.W.keepIn K (.ref f_changes) = true)
    (a_poles : PySem.W.nsIn K mainGlobals "poles" = some (some (.ref f_poles))) (l_poles : K.lookup f_poles = some ⟨oc_poles, od_poles, .func (PySem.W.fnOf "poles" "poles" (defArgs s_poles) (defBody s_poles) (defScope s_poles) .none kV_poles dc_poles pm_poles an_poles cd_poles ct_poles), sl_poles⟩) (e_poles : PySem.W.codeIn K cd_poles "poles" = true) (k_poles : PySem.W.keepIn K (.ref f_poles) = true)
    (a_derived : PySem.W.nsIn K mainGlobals "derived" = some (some (.ref f_derived))) (l_derived : K.lookup f_derived = some ⟨oc_derived, od_derived, .func (PySem.W.fnOf "derived" "derived" (defArgs s_derived) (defBody s_derived) (defScope s_derived) .none kV_derived dc_derived pm_derived an_derived cd_derived ct_derived), sl_derived⟩) (e_derived : PySem.W.codeIn K cd_derived "derived" = true) (k_derived : PySem.W.keepIn K (.ref f_derived) = true)
    (a_real_roots : PySem.W.nsIn K mainGlobals "real_roots" = some (some (.ref f_real_roots))) (l_real_roots : K.lookup f_real_roots = some ⟨oc_real_roots, od_real_roots, .func (PySem.W.fnOf "real_roots" "real_roots" (defArgs s_real_roots) (defBody s_real_roots) (defScope s_real_roots) .none kV_real_roots dc_real_roots pm_real_roots an_real_roots cd_real_roots ct_real_roots), sl_real_roots⟩) (e_real_roots : PySem.W.codeIn K cd_real_roots "real_roots" = true) (k_real_roots : PySem.W.keepIn K (.ref f_real_roots) = true)
    (a_counts_by_circle : PySem.W.nsIn K mainGlobals "counts_by_circle" = some (some (.ref f_counts_by_circle))) (l_counts_by_circle : K.lookup f_counts_by_circle = some ⟨oc_counts_by_circle, od_counts_by_circle, .func (PySem.W.fnOf "counts_by_circle" "counts_by_circle" (defArgs s_counts_by_circle) (defBody s_counts_by_circle) (defScope s_counts_by_circle) .none kV_counts_by_circle dc_counts_by_circle pm_counts_by_circle an_counts_by_circle cd_counts_by_circle ct_counts_by_circle), sl_counts_by_circle⟩) (e_counts_by_circle : PySem.W.codeIn K cd_counts_by_circle "counts_by_circle" = true) (k_counts_by_circle : PySem.W.keepIn K (.ref f_counts_by_circle) = true)
    (a_is_side : PySem.W.nsIn K mainGlobals "is_side" = some (some (.ref f_is_side))) (l_is_side : K.lookup f_is_side = some ⟨oc_is_side, od_is_side, .func (PySem.W.fnOf "is_side" "is_side" (defArgs s_is_side) (defBody s_is_side) (defScope s_is_side) .none kV_is_side dc_is_side pm_is_side an_is_side cd_is_side ct_is_side), sl_is_side⟩) (e_is_side : PySem.W.codeIn K cd_is_side "is_side" = true) (k_is_side : PySem.W.keepIn K (.ref f_is_side) = true)
    (a_is_matrix : PySem.W.nsIn K mainGlobals "is_matrix" = some (some (.ref f_is_matrix))) (l_is_matrix : K.lookup f_is_matrix = some ⟨oc_is_matrix, od_is_matrix, .func (PySem.W.fnOf "is_matrix" "is_matrix" (defArgs s_is_matrix) (defBody s_is_matrix) (defScope s_is_matrix) .none kV_is_matrix dc_is_matrix pm_is_matrix an_is_matrix cd_is_matrix ct_is_matrix), sl_is_matrix⟩) (e_is_matrix : PySem.W.codeIn K cd_is_matrix "is_matrix" = true) (k_is_matrix : PySem.W.keepIn K (.ref f_is_matrix) = true)
    (a_row_from : PySem.W.nsIn K mainGlobals "row_from" = some (some (.ref f_row_from))) (l_row_from : K.lookup f_row_from = some ⟨oc_row_from, od_row_from, .func (PySem.W.fnOf "row_from" "row_from" (defArgs s_row_from) (defBody s_row_from) (defScope s_row_from) .none kV_row_from dc_row_from pm_row_from an_row_from cd_row_from ct_row_from), sl_row_from⟩) (e_row_from : PySem.W.codeIn K cd_row_from "row_from" = true) (k_row_from : PySem.W.keepIn K (.ref f_row_from) = true)
    (a_matrix_from : PySem.W.nsIn K mainGlobals "matrix_from" = some (some (.ref f_matrix_from))) (l_matrix_from : K.lookup f_matrix_from = some ⟨oc_matrix_from, od_matrix_from, .func (PySem.W.fnOf "matrix_from" "matrix_from" (defArgs s_matrix_from) (defBody s_matrix_from) (defScope s_matrix_from) .none kV_matrix_from dc_matrix_from pm_matrix_from an_matrix_from cd_matrix_from ct_matrix_from), sl_matrix_from⟩) (e_matrix_from : PySem.W.codeIn K cd_matrix_from "matrix_from" = true) (k_matrix_from : PySem.W.keepIn K (.ref f_matrix_from) = true)
    (a_circle : PySem.W.nsIn K mainGlobals "circle" = some (some (.ref f_circle))) (l_circle : K.lookup f_circle = some ⟨oc_circle, od_circle, .func (PySem.W.fnOf "circle" "circle" (defArgs s_circle) (defBody s_circle) (defScope s_circle) .none kV_circle dc_circle pm_circle an_circle cd_circle ct_circle), sl_circle⟩) (e_circle : PySem.W.codeIn K cd_circle "circle" = true) (k_circle : PySem.W.keepIn K (.ref f_circle) = true)
    (b_abs : PySem.W.nsIn K mainGlobals "abs" = some none)
    (b_enumerate : PySem.W.nsIn K mainGlobals "enumerate" = some none)
    (b_len : PySem.W.nsIn K mainGlobals "len" = some none)
    (b_max : PySem.W.nsIn K mainGlobals "max" = some none)
    (b_range : PySem.W.nsIn K mainGlobals "range" = some none)
    (b_reversed : PySem.W.nsIn K mainGlobals "reversed" = some none)
    (v_GREATEST_SIDE : PySem.W.nsIn K mainGlobals "GREATEST_SIDE" = some (some (.int (9) t_GREATEST_SIDE)))
    (v_BOUND : PySem.W.nsIn K mainGlobals "BOUND" = some (some (.int (10000000000000000000000000000000000000000) t_BOUND)))
    (v_NO_MATRIX : PySem.W.nsIn K mainGlobals "NO_MATRIX" = some (some (.int (-6) t_NO_MATRIX)))
    (v_NOT_FIT : PySem.W.nsIn K mainGlobals "NOT_FIT" = some (some (.int (-1) t_NOT_FIT)))
    (v_NO_ANSWER : PySem.W.nsIn K mainGlobals "NO_ANSWER" = some (some (.int (-4) t_NO_ANSWER)))
    (a_Polynomial : PySem.W.nsIn K mainGlobals "Polynomial" = some (some (.ref CPolynomial))) (ai_Polynomial : PySem.W.findIn K (.ref CPolynomial) "__init__" = some (some (.ref fi_Polynomial))) (if_Polynomial : PySem.W.isFn K (.ref fi_Polynomial) = true) (li_Polynomial : K.lookup fi_Polynomial = some ⟨oc_Polynomial, od_Polynomial, .func (PySem.W.fnOf "__init__" "Polynomial.__init__" (defArgs si_Polynomial) (defBody si_Polynomial) (defScope si_Polynomial) .none kV_Polynomial dc_Polynomial pm_Polynomial an_Polynomial cd_Polynomial ct_Polynomial), sl_Polynomial⟩) (ei_Polynomial : PySem.W.codeIn K cd_Polynomial "Polynomial.__init__" = true) (ki_Polynomial : PySem.W.keepIn K (.ref fi_Polynomial) = true)
    (pg_Polynomial : PySem.W.plainGet K CPolynomial Str.empty = true) (hd_Polynomial : PySem.W.hasDictIn K CPolynomial = true) (po_Polynomial : PySem.W.plainOver K CPolynomial = true) (sa_Polynomial : PySem.W.findIn K (.ref CPolynomial) "__setattr__" = some (some (.builtin "object.__setattr__"))) (mk_Polynomial : PySem.W.makesIn K CPolynomial = true) (kc_Polynomial : PySem.W.keepIn K (.ref CPolynomial) = true)
    (n_Polynomial_whole : PySem.W.findIn K (.ref CPolynomial) "whole" = some none)
    (n_Polynomial_scale : PySem.W.findIn K (.ref CPolynomial) "scale" = some none)
    (a_Division : PySem.W.nsIn K mainGlobals "Division" = some (some (.ref CDivision))) (ai_Division : PySem.W.findIn K (.ref CDivision) "__init__" = some (some (.ref fi_Division))) (if_Division : PySem.W.isFn K (.ref fi_Division) = true) (li_Division : K.lookup fi_Division = some ⟨oc_Division, od_Division, .func (PySem.W.fnOf "__init__" "Division.__init__" (defArgs si_Division) (defBody si_Division) (defScope si_Division) .none kV_Division dc_Division pm_Division an_Division cd_Division ct_Division), sl_Division⟩) (ei_Division : PySem.W.codeIn K cd_Division "Division.__init__" = true) (ki_Division : PySem.W.keepIn K (.ref fi_Division) = true)
    (pg_Division : PySem.W.plainGet K CDivision Str.empty = true) (hd_Division : PySem.W.hasDictIn K CDivision = true) (po_Division : PySem.W.plainOver K CDivision = true) (sa_Division : PySem.W.findIn K (.ref CDivision) "__setattr__" = some (some (.builtin "object.__setattr__"))) (mk_Division : PySem.W.makesIn K CDivision = true) (kc_Division : PySem.W.keepIn K (.ref CDivision) = true)
    (n_Division_quotient : PySem.W.findIn K (.ref CDivision) "quotient" = some none)
    (n_Division_rest : PySem.W.findIn K (.ref CDivision) "rest" = some none)
    (n_Division_scale : PySem.W.findIn K (.ref CDivision) "scale" = some none) :
    ∃ fd : FuncData, (∀ (s : Shared) (us : List Value), us.length = (["f"] : List Str).length → BindsTo s fd ⟨us, []⟩ ((["f"] : List Str).zip us)) ∧ ∀ base : Heap, K.In base → base.Ns mainGlobals mg → FnOk P w K mg base CX0 39 fa fd ["f"] (sp_circle K) := by
  have e := hfa.symm.trans (PySem.W.mg_of X G a_circle)
  cases e
  have T_common_divisor : At K mg "common_divisor" s_common_divisor ["m", "n"] := at_mk X G a_common_divisor l_common_divisor e_common_divisor k_common_divisor fun _ _ _ _ _ _ us hl => match us, hl with | [_, _], _ => rfl
  have T_common_multiple : At K mg "common_multiple" s_common_multiple ["m", "n"] := at_mk X G a_common_multiple l_common_multiple e_common_multiple k_common_multiple fun _ _ _ _ _ _ us hl => match us, hl with | [_, _], _ => rfl
  have T_lowest : At K mg "lowest" s_lowest ["top", "bottom"] := at_mk X G a_lowest l_lowest e_lowest k_lowest fun _ _ _ _ _ _ us hl => match us, hl with | [_, _], _ => rfl
  have T_scale_of : At K mg "scale_of" s_scale_of ["row"] := at_mk X G a_scale_of l_scale_of e_scale_of k_scale_of fun _ _ _ _ _ _ us hl => match us, hl with | [_], _ => rfl
  have T_whole_row : At K mg "whole_row" s_whole_row ["row", "scale"] := at_mk X G a_whole_row l_whole_row e_whole_row k_whole_row fun _ _ _ _ _ _ us hl => match us, hl with | [_, _], _ => rfl
  have T_grown_row : At K mg "grown_row" s_grown_row ["row", "factor"] := at_mk X G a_grown_row l_grown_row e_grown_row k_grown_row fun _ _ _ _ _ _ us hl => match us, hl with | [_, _], _ => rfl
  have T_shrunk_row : At K mg "shrunk_row" s_shrunk_row ["row", "divisor"] := at_mk X G a_shrunk_row l_shrunk_row e_shrunk_row k_shrunk_row fun _ _ _ _ _ _ us hl => match us, hl with | [_, _], _ => rfl
  have T_row_divisor : At K mg "row_divisor" s_row_divisor ["row", "number"] := at_mk X G a_row_divisor l_row_divisor e_row_divisor k_row_divisor fun _ _ _ _ _ _ us hl => match us, hl with | [_, _], _ => rfl
  have T_trimmed : At K mg "trimmed" s_trimmed ["whole"] := at_mk X G a_trimmed l_trimmed e_trimmed k_trimmed fun _ _ _ _ _ _ us hl => match us, hl with | [_], _ => rfl
  have T_coefficient : At K mg "coefficient" s_coefficient ["whole", "k"] := at_mk X G a_coefficient l_coefficient e_coefficient k_coefficient fun _ _ _ _ _ _ us hl => match us, hl with | [_, _], _ => rfl
  have T_whole_sum : At K mg "whole_sum" s_whole_sum ["f", "g"] := at_mk X G a_whole_sum l_whole_sum e_whole_sum k_whole_sum fun _ _ _ _ _ _ us hl => match us, hl with | [_, _], _ => rfl
  have T_whole_multiplied : At K mg "whole_multiplied" s_whole_multiplied ["f", "g"] := at_mk X G a_whole_multiplied l_whole_multiplied e_whole_multiplied k_whole_multiplied fun _ _ _ _ _ _ us hl => match us, hl with | [_, _], _ => rfl
  have T_divided : At K mg "divided" s_divided ["f", "g"] := at_mk X G a_divided l_divided e_divided k_divided fun _ _ _ _ _ _ us hl => match us, hl with | [_, _], _ => rfl
  have T_without_content : At K mg "without_content" s_without_content ["whole"] := at_mk X G a_without_content l_without_content e_without_content k_without_content fun _ _ _ _ _ _ us hl => match us, hl with | [_], _ => rfl
  have T_polynomial_from : At K mg "polynomial_from" s_polynomial_from ["row"] := at_mk X G a_polynomial_from l_polynomial_from e_polynomial_from k_polynomial_from fun _ _ _ _ _ _ us hl => match us, hl with | [_], _ => rfl
  have T_in_half_plane : At K mg "in_half_plane" s_in_half_plane ["f"] := at_mk X G a_in_half_plane l_in_half_plane e_in_half_plane k_in_half_plane fun _ _ _ _ _ _ us hl => match us, hl with | [_], _ => rfl
  have T_along_axis : At K mg "along_axis" s_along_axis ["f", "start"] := at_mk X G a_along_axis l_along_axis e_along_axis k_along_axis fun _ _ _ _ _ _ us hl => match us, hl with | [_, _], _ => rfl
  have T_chain : At K mg "chain" s_chain ["p", "q"] := at_mk X G a_chain l_chain e_chain k_chain fun _ _ _ _ _ _ us hl => match us, hl with | [_, _], _ => rfl
  have T_changes : At K mg "changes" s_changes ["found"] := at_mk X G a_changes l_changes e_changes k_changes fun _ _ _ _ _ _ us hl => match us, hl with | [_], _ => rfl
  have T_poles : At K mg "poles" s_poles ["links"] := at_mk X G a_poles l_poles e_poles k_poles fun _ _ _ _ _ _ us hl => match us, hl with | [_], _ => rfl
  have T_derived : At K mg "derived" s_derived ["p"] := at_mk X G a_derived l_derived e_derived k_derived fun _ _ _ _ _ _ us hl => match us, hl with | [_], _ => rfl
  have T_real_roots : At K mg "real_roots" s_real_roots ["p"] := at_mk X G a_real_roots l_real_roots e_real_roots k_real_roots fun _ _ _ _ _ _ us hl => match us, hl with | [_], _ => rfl
  have T_counts_by_circle : At K mg "counts_by_circle" s_counts_by_circle ["f"] := at_mk X G a_counts_by_circle l_counts_by_circle e_counts_by_circle k_counts_by_circle fun _ _ _ _ _ _ us hl => match us, hl with | [_], _ => rfl
  have T_is_side : At K mg "is_side" s_is_side ["number"] := at_mk X G a_is_side l_is_side e_is_side k_is_side fun _ _ _ _ _ _ us hl => match us, hl with | [_], _ => rfl
  have T_is_matrix : At K mg "is_matrix" s_is_matrix ["numbers"] := at_mk X G a_is_matrix l_is_matrix e_is_matrix k_is_matrix fun _ _ _ _ _ _ us hl => match us, hl with | [_], _ => rfl
  have T_row_from : At K mg "row_from" s_row_from ["numbers", "start", "columns"] := at_mk X G a_row_from l_row_from e_row_from k_row_from fun _ _ _ _ _ _ us hl => match us, hl with | [_, _, _], _ => rfl
  have T_matrix_from : At K mg "matrix_from" s_matrix_from ["numbers"] := at_mk X G a_matrix_from l_matrix_from e_matrix_from k_matrix_from fun _ _ _ _ _ _ us hl => match us, hl with | [_], _ => rfl
  have T_circle : At K mg "circle" s_circle ["f"] := at_mk X G a_circle l_circle e_circle k_circle fun _ _ _ _ _ _ us hl => match us, hl with | [_], _ => rfl
  have h_abs : mg "abs" = none := PySem.W.mg_none_of X G b_abs
  have h_enumerate : mg "enumerate" = none := PySem.W.mg_none_of X G b_enumerate
  have h_len : mg "len" = none := PySem.W.mg_none_of X G b_len
  have h_max : mg "max" = none := PySem.W.mg_none_of X G b_max
  have h_range : mg "range" = none := PySem.W.mg_none_of X G b_range
  have h_reversed : mg "reversed" = none := PySem.W.mg_none_of X G b_reversed
  have c_GREATEST_SIDE : Con1 mg "GREATEST_SIDE" (.int (9)) := ⟨_, PySem.W.mg_of X G v_GREATEST_SIDE, ⟨_, rfl⟩⟩
  have c_BOUND : Con1 mg "BOUND" (.int (10000000000000000000000000000000000000000)) := ⟨_, PySem.W.mg_of X G v_BOUND, ⟨_, rfl⟩⟩
  have c_NO_MATRIX : Con1 mg "NO_MATRIX" (.int (-6)) := ⟨_, PySem.W.mg_of X G v_NO_MATRIX, ⟨_, rfl⟩⟩
  have c_NOT_FIT : Con1 mg "NOT_FIT" (.int (-1)) := ⟨_, PySem.W.mg_of X G v_NOT_FIT, ⟨_, rfl⟩⟩
  have c_NO_ANSWER : Con1 mg "NO_ANSWER" (.int (-4)) := ⟨_, PySem.W.mg_of X G v_NO_ANSWER, ⟨_, rfl⟩⟩
  refine ⟨PySem.W.fnOf "circle" "circle" (defArgs s_circle) (defBody s_circle) (defScope s_circle) .none kV_circle dc_circle pm_circle an_circle cd_circle ct_circle, fun s us hu => match us, hu with | [_], _ => .of_eq rfl, fun base _ _ => ?_⟩
  have c_Polynomial : KlsPolynomial P w K mg base CPolynomial := mkPolynomial X G a_Polynomial ai_Polynomial if_Polynomial li_Polynomial ei_Polynomial ki_Polynomial pg_Polynomial hd_Polynomial po_Polynomial sa_Polynomial mk_Polynomial kc_Polynomial n_Polynomial_whole n_Polynomial_scale
  have c_Division : KlsDivision P w K mg base CDivision := mkDivision X G a_Division ai_Division if_Division li_Division ei_Division ki_Division pg_Division hd_Division po_Division sa_Division mk_Division kc_Division n_Division_quotient n_Division_rest n_Division_scale
  have C_common_divisor : Cal P w K mg base 33 "common_divisor" ["m", "n"] sp_common_divisor := ok_common_divisor T_common_divisor h_abs
  have C_common_multiple : Cal P w K mg base 34 "common_multiple" ["m", "n"] sp_common_multiple := ok_common_multiple T_common_multiple C_common_divisor h_tree
  have C_lowest : Cal P w K mg base 34 "lowest" ["top", "bottom"] sp_lowest := ok_lowest T_lowest C_common_divisor h_tree
  have C_scale_of : Cal P w K mg base 35 "scale_of" ["row"] sp_scale_of := ok_scale_of T_scale_of C_common_multiple
  have C_whole_row : Cal P w K mg base 33 "whole_row" ["row", "scale"] sp_whole_row := ok_whole_row T_whole_row h_tree
  have C_grown_row : Cal P w K mg base 33 "grown_row" ["row", "factor"] sp_grown_row := ok_grown_row T_grown_row
  have C_shrunk_row : Cal P w K mg base 33 "shrunk_row" ["row", "divisor"] sp_shrunk_row := ok_shrunk_row T_shrunk_row h_tree
  have C_row_divisor : Cal P w K mg base 34 "row_divisor" ["row", "number"] sp_row_divisor := ok_row_divisor T_row_divisor C_common_divisor
  have C_trimmed : Cal P w K mg base 33 "trimmed" ["whole"] sp_trimmed := ok_trimmed T_trimmed h_len
  have C_coefficient : Cal P w K mg base 33 "coefficient" ["whole", "k"] sp_coefficient := ok_coefficient T_coefficient h_len
  have C_whole_sum : Cal P w K mg base 34 "whole_sum" ["f", "g"] sp_whole_sum := ok_whole_sum T_whole_sum C_trimmed C_coefficient h_range h_max h_len
  have C_whole_multiplied : Cal P w K mg base 35 "whole_multiplied" ["f", "g"] sp_whole_multiplied := ok_whole_multiplied T_whole_multiplied C_whole_sum C_grown_row h_enumerate
  have C_divided : Cal P w K mg base 35 "divided" ["f", "g"] (sp_divided CDivision) := ok_divided T_divided C_coefficient C_whole_sum C_grown_row h_abs h_range h_len c_Division
  have C_without_content : Cal P w K mg base 35 "without_content" ["whole"] sp_without_content := ok_without_content T_without_content C_shrunk_row C_row_divisor
  have C_polynomial_from : Cal P w K mg base 36 "polynomial_from" ["row"] (sp_polynomial_from CPolynomial) := ok_polynomial_from T_polynomial_from C_scale_of C_trimmed C_whole_row c_Polynomial
  have C_in_half_plane : Cal P w K mg base 36 "in_half_plane" ["f"] sp_in_half_plane := ok_in_half_plane T_in_half_plane C_whole_sum C_whole_multiplied C_grown_row h_reversed
  have C_along_axis : Cal P w K mg base 34 "along_axis" ["f", "start"] sp_along_axis := ok_along_axis T_along_axis C_trimmed h_enumerate
  have C_chain : Cal P w K mg base 36 "chain" ["p", "q"] sp_chain := ok_chain T_chain C_without_content C_grown_row C_divided c_Polynomial c_Division
  have C_changes : Cal P w K mg base 33 "changes" ["found"] sp_changes := ok_changes T_changes h_len h_range
  have C_poles : Cal P w K mg base 34 "poles" ["links"] sp_poles := ok_poles T_poles C_changes h_len
  have C_derived : Cal P w K mg base 33 "derived" ["p"] sp_derived := ok_derived T_derived h_enumerate
  have C_real_roots : Cal P w K mg base 37 "real_roots" ["p"] sp_real_roots := ok_real_roots T_real_roots C_chain C_poles C_derived h_len
  have C_counts_by_circle : Cal P w K mg base 38 "counts_by_circle" ["f"] sp_counts_by_circle := ok_counts_by_circle T_counts_by_circle C_in_half_plane C_chain C_poles C_real_roots C_along_axis h_len h_tree
  have C_is_side : Cal P w K mg base 33 "is_side" ["number"] sp_is_side := ok_is_side T_is_side c_GREATEST_SIDE
  have C_is_matrix : Cal P w K mg base 34 "is_matrix" ["numbers"] (sp_is_matrix K) := ok_is_matrix T_is_matrix C_is_side h_range h_len c_BOUND
  have C_row_from : Cal P w K mg base 35 "row_from" ["numbers", "start", "columns"] (sp_row_from K) := ok_row_from T_row_from C_lowest h_range
  have C_matrix_from : Cal P w K mg base 36 "matrix_from" ["numbers"] (sp_matrix_from K) := ok_matrix_from T_matrix_from C_row_from h_range h_len
  have C_circle : Cal P w K mg base 39 "circle" ["f"] (sp_circle K) := ok_circle T_circle C_matrix_from C_polynomial_from C_is_matrix C_counts_by_circle h_len c_NO_MATRIX c_NOT_FIT c_NO_ANSWER c_Polynomial c_Division
  exact C_circle.fn (PySem.W.mg_of X G a_circle) (fun_mk (st := s_circle) l_circle e_circle k_circle)
end EM
open PySem PySem.W PyProof.Rows
set_option maxRecDepth 100000 in
set_option maxHeartbeats 0 in
theorem PySem.Challenge.cw_exactmatrices_s12_circle_holds : PySem.Challenge.rw_exactmatrices_s12_circle.Holds := by
  w_on; k_headS; (case hw => exact ⟨[.list []], by decide +kernel, by decide +kernel⟩)
  k_fillS
  refine L2.walk_specK (r := PySem.Challenge.rw_exactmatrices_s12_circle) (k := 39) (CX := L2.CX0) (ps := ["f"]) (sp := EM.sp_circle) (by decide +kernel) (by decide +kernel) rfl rfl ⟨rfl, by decide, by decide⟩ (fun w h Y => PySem.W.kIn_of Y) ?F ?S (fun _ _ _ _ z => z)
  case F =>
    intro w mg fa h Y KX G hmg
    refine' EM.all_mk KX G hmg rfl ?a_common_divisor ?l_common_divisor ?e_common_divisor ?k_common_divisor ?a_common_multiple ?l_common_multiple ?e_common_multiple ?k_common_multiple ?a_lowest ?l_lowest ?e_lowest ?k_lowest ?a_scale_of ?l_scale_of ?e_scale_of ?k_scale_of ?a_whole_row ?l_whole_row ?e_whole_row ?k_whole_row ?a_grown_row ?l_grown_row ?e_grown_row ?k_grown_row ?a_shrunk_row ?l_shrunk_row ?e_shrunk_row ?k_shrunk_row ?a_row_divisor ?l_row_divisor ?e_row_divisor ?k_row_divisor ?a_trimmed ?l_trimmed ?e_trimmed ?k_trimmed ?a_coefficient ?l_coefficient ?e_coefficient ?k_coefficient ?a_whole_sum ?l_whole_sum ?e_whole_sum ?k_whole_sum ?a_whole_multiplied ?l_whole_multiplied ?e_whole_multiplied ?k_whole_multiplied ?a_divided ?l_divided ?e_divided ?k_divided ?a_without_content ?l_without_content ?e_without_content ?k_without_content ?a_polynomial_from ?l_polynomial_from ?e_polynomial_from ?k_polynomial_from ?a_in_half_plane ?l_in_half_plane ?e_in_half_plane ?k_in_half_plane ?a_along_axis ?l_along_axis ?e_along_axis ?k_along_axis ?a_chain ?l_chain ?e_chain ?k_chain ?a_changes ?l_changes ?e_changes ?k_changes ?a_poles ?l_poles ?e_poles ?k_poles ?a_derived ?l_derived ?e_derived ?k_derived ?a_real_roots ?l_real_roots ?e_real_roots ?k_real_roots ?a_counts_by_circle ?l_counts_by_circle ?e_counts_by_circle ?k_counts_by_circle ?a_is_side ?l_is_side ?e_is_side ?k_is_side ?a_is_matrix ?l_is_matrix ?e_is_matrix ?k_is_matrix ?a_row_from ?l_row_from ?e_row_from ?k_row_from ?a_matrix_from ?l_matrix_from ?e_matrix_from ?k_matrix_from ?a_circle ?l_circle ?e_circle ?k_circle ?b_abs ?b_enumerate ?b_len ?b_max ?b_range ?b_reversed ?v_GREATEST_SIDE ?v_BOUND ?v_NO_MATRIX ?v_NOT_FIT ?v_NO_ANSWER ?a_Polynomial ?ai_Polynomial ?if_Polynomial ?li_Polynomial ?ei_Polynomial ?ki_Polynomial ?pg_Polynomial ?hd_Polynomial ?po_Polynomial ?sa_Polynomial ?mk_Polynomial ?kc_Polynomial ?n_Polynomial_whole ?n_Polynomial_scale ?a_Division ?ai_Division ?if_Division ?li_Division ?ei_Division ?ki_Division ?pg_Division ?hd_Division ?po_Division ?sa_Division ?mk_Division ?kc_Division ?n_Division_quotient ?n_Division_rest ?n_Division_scale
    (case a_common_divisor => k_is)
    (case l_common_divisor => k_is)
    (case e_common_divisor => k_is)
    (case k_common_divisor => k_is)
    (case a_common_multiple => k_is)
    (case l_common_multiple => k_is)
    (case e_common_multiple => k_is)
    (case k_common_multiple => k_is)
    (case a_lowest => k_is)
    (case l_lowest => k_is)
    (case e_lowest => k_is)
    (case k_lowest => k_is)
    (case a_scale_of => k_is)
    (case l_scale_of => k_is)
    (case e_scale_of => k_is)
    (case k_scale_of => k_is)
    (case a_whole_row => k_is)
    (case l_whole_row => k_is)
    (case e_whole_row => k_is)
    (case k_whole_row => k_is)
    (case a_grown_row => k_is)
    (case l_grown_row => k_is)
    (case e_grown_row => k_is)
    (case k_grown_row => k_is)
    (case a_shrunk_row => k_is)
    (case l_shrunk_row => k_is)
    (case e_shrunk_row => k_is)
    (case k_shrunk_row => k_is)
    (case a_row_divisor => k_is)
    (case l_row_divisor => k_is)
    (case e_row_divisor => k_is)
    (case k_row_divisor => k_is)
    (case a_trimmed => k_is)
    (case l_trimmed => k_is)
    (case e_trimmed => k_is)
    (case k_trimmed => k_is)
    (case a_coefficient => k_is)
    (case l_coefficient => k_is)
    (case e_coefficient => k_is)
    (case k_coefficient => k_is)
    (case a_whole_sum => k_is)
    (case l_whole_sum => k_is)
    (case e_whole_sum => k_is)
    (case k_whole_sum => k_is)
    (case a_whole_multiplied => k_is)
    (case l_whole_multiplied => k_is)
    (case e_whole_multiplied => k_is)
    (case k_whole_multiplied => k_is)
    (case a_divided => k_is)
    (case l_divided => k_is)
    (case e_divided => k_is)
    (case k_divided => k_is)
    (case a_without_content => k_is)
    (case l_without_content => k_is)
    (case e_without_content => k_is)
    (case k_without_content => k_is)
    (case a_polynomial_from => k_is)
    (case l_polynomial_from => k_is)
    (case e_polynomial_from => k_is)
    (case k_polynomial_from => k_is)
    (case a_in_half_plane => k_is)
    (case l_in_half_plane => k_is)
    (case e_in_half_plane => k_is)
    (case k_in_half_plane => k_is)
    (case a_along_axis => k_is)
    (case l_along_axis => k_is)
    (case e_along_axis => k_is)
    (case k_along_axis => k_is)
    (case a_chain => k_is)
    (case l_chain => k_is)
    (case e_chain => k_is)
    (case k_chain => k_is)
    (case a_changes => k_is)
    (case l_changes => k_is)
    (case e_changes => k_is)
    (case k_changes => k_is)
    (case a_poles => k_is)
    (case l_poles => k_is)
    (case e_poles => k_is)
    (case k_poles => k_is)
    (case a_derived => k_is)
    (case l_derived => k_is)
    (case e_derived => k_is)
    (case k_derived => k_is)
    (case a_real_roots => k_is)
    (case l_real_roots => k_is)
    (case e_real_roots => k_is)
    (case k_real_roots => k_is)
    (case a_counts_by_circle => k_is)
    (case l_counts_by_circle => k_is)
    (case e_counts_by_circle => k_is)
    (case k_counts_by_circle => k_is)
    (case a_is_side => k_is)
    (case l_is_side => k_is)
    (case e_is_side => k_is)
    (case k_is_side => k_is)
    (case a_is_matrix => k_is)
    (case l_is_matrix => k_is)
    (case e_is_matrix => k_is)
    (case k_is_matrix => k_is)
    (case a_row_from => k_is)
    (case l_row_from => k_is)
    (case e_row_from => k_is)
    (case k_row_from => k_is)
    (case a_matrix_from => k_is)
    (case l_matrix_from => k_is)
    (case e_matrix_from => k_is)
    (case k_matrix_from => k_is)
    (case a_circle => k_is)
    (case l_circle => k_is)
    (case e_circle => k_is)
    (case k_circle => k_is)
    (case b_abs => k_is)
    (case b_enumerate => k_is)
    (case b_len => k_is)
    (case b_max => k_is)
    (case b_range => k_is)
    (case b_reversed => k_is)
    (case v_GREATEST_SIDE => k_is)
    (case v_BOUND => k_is)
    (case v_NO_MATRIX => k_is)
    (case v_NOT_FIT => k_is)
    (case v_NO_ANSWER => k_is)
    (case a_Polynomial => k_is)
    (case ai_Polynomial => k_is)
    (case if_Polynomial => k_is)
    (case li_Polynomial => k_is)
    (case ei_Polynomial => k_is)
    (case ki_Polynomial => k_is)
    (case pg_Polynomial => k_is)
    (case hd_Polynomial => k_is)
    (case po_Polynomial => k_is)
    (case sa_Polynomial => k_is)
    (case mk_Polynomial => k_is)
    (case kc_Polynomial => k_is)
    (case n_Polynomial_whole => k_is)
    (case n_Polynomial_scale => k_is)
    (case a_Division => k_is)
    (case ai_Division => k_is)
    (case if_Division => k_is)
    (case li_Division => k_is)
    (case ei_Division => k_is)
    (case ki_Division => k_is)
    (case pg_Division => k_is)
    (case hd_Division => k_is)
    (case po_Division => k_is)
    (case sa_Division => k_is)
    (case mk_Division => k_is)
    (case kc_Division => k_is)
    (case n_Division_quotient => k_is)
    (case n_Division_rest => k_is)
    (case n_Division_scale => k_is)
  case S =>
    intro K H xs a hO hwi hask hx
    cases hx with
    | cons h0 t0 =>
      cases t0
      cases h0 with
      | lst hs0 ha0 =>
        have e0 := L2.ints_dw a.1 _ ha0
        subst e0
        have q : ((Codec.inLen 0 300 a.1 && a.1.all _) && true) = true := hwi
        simp only [Bool.and_eq_true] at q
        exact ⟨(a.1), H, (Codec.inNat_iff.mp q.1.1).2, L2.Same.refl _, (.cons ⟨_, rfl, hs0⟩ .nil), fun p us G' H' x hn r => .lst (L2.SqL.of L2.upd_same) (EM.dw_reps r)⟩
#print axioms PySem.Challenge.cw_exactmatrices_s12_circle_holds
