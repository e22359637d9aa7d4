import PyProof.Rows.All
import Wide.All
import OpenK.AllK
import Wide.FinOn
import PyProof.EqAt
import PyProof.EqKinds
import PyProof.TupleCall
import KE.BitLaws
import Open.SpecLaws
import KE.OsHead
import KE.OsGo
import PyProof.ZipIter
import PyProof.ListMulRoad
import PyFlatLaws
import PySem.Challenge.RW_watchedwindow_s01_answers
set_option Elab.async false
set_option linter.all false
set_option maxRecDepth 100000
namespace L2
open PySem PySem.Spec PyProof.Rows
/-- a key: an int or a str -/
abbrev Key := Sum Int Str
def keyIs : Key → Value → Bool
  | .inl k, v => Value.isInt k v
  | .inr x, v => Value.isStrOf x v
def keyH (w : World) : Key → Int
  | .inl k => hashInt k
  | .inr x => hashStr w x
theorem keyIs_shape : ∀ {k : Key} {v : Value}, keyIs k v = true → (∃ i t, k = Sum.inl i ∧ v = Value.int i t) ∨ (∃ x t, k = Sum.inr x ∧ v = Value.str x t)
  | .inl i, v, h => by
    obtain ⟨t, e⟩ := Value.isInt_shape (k := i) (v := v) h
    exact .inl ⟨i, t, rfl, e⟩
  | .inr x, v, h => by
    obtain ⟨t, e⟩ := Value.isStrOf_shape (x := x) (v := v) h
    exact .inr ⟨x, t, rfl, e⟩
theorem key_ll (a b : Int) : decide ((Sum.inl a : Key) = Sum.inl b) = (a == b) := by
  by_cases e : a = b
  · subst e; simp
  · have h : ¬ (Sum.inl a : Key) = Sum.inl b := fun q => e (Sum.inl.inj q)
    rw [decide_eq_false h]
    exact (beq_eq_false_iff_ne.mpr e).symm
theorem key_rr (a b : Str) : decide ((Sum.inr a : Key) = Sum.inr b) = decide (a = b) := by
  by_cases e : a = b
  · subst e; simp
  · have h : ¬ (Sum.inr a : Key) = Sum.inr b := fun q => e (Sum.inr.inj q)
    rw [decide_eq_false h, decide_eq_false e]
theorem key_lr (a : Int) (b : Str) : decide ((Sum.inl a : Key) = Sum.inr b) = false := decide_eq_false (fun q => nomatch q)
theorem key_rl (a : Str) (b : Int) : decide ((Sum.inr a : Key) = Sum.inl b) = false := decide_eq_false (fun q => nomatch q)
def mixKind (prog : Program) (w : World) : PySem.KeyKind prog w Key where
  is := keyIs
  hash := keyH w
  inj := fun v a b ha hb => by
    rcases keyIs_shape ha with ⟨i, t, rfl, rfl⟩ | ⟨x, t, rfl, rfl⟩
    · rcases keyIs_shape hb with ⟨j, u, rfl, e⟩ | ⟨y, u, rfl, e⟩
      · injection e with e1 _; rw [e1]
      · exact nomatch e
    · rcases keyIs_shape hb with ⟨j, u, rfl, e⟩ | ⟨y, u, rfl, e⟩
      · exact nomatch e
      · injection e with e1 _; rw [e1]
  byValue := fun k v h => by
    rcases keyIs_shape h with ⟨i, t, rfl, rfl⟩ | ⟨x, t, rfl, rfl⟩ <;> rfl
  pyHash := fun hv h => by
    rcases keyIs_shape hv with ⟨i, t, rfl, rfl⟩ | ⟨x, t, rfl, rfl⟩
    · exact wpAny_pyHash_int h
    · exact wpAny_pyHash_str h
  eqBool := fun hu hv h => by
    rcases keyIs_shape hu with ⟨i, t, rfl, rfl⟩ | ⟨x, t, rfl, rfl⟩
    · rcases keyIs_shape hv with ⟨j, u, rfl, rfl⟩ | ⟨y, u, rfl, rfl⟩
      · rw [key_ll] at h; exact wpAny_eqBool_int h
      · rw [key_lr] at h; exact SeqAt.EqAt.int_str i t y u _ _ _ _ h
    · rcases keyIs_shape hv with ⟨j, u, rfl, rfl⟩ | ⟨y, u, rfl, rfl⟩
      · rw [key_rl] at h; exact SeqAt.EqAt.str_int x t j u _ _ _ _ h
      · rw [key_rr] at h; exact wpAny_eqBool_str h
  «strs» := fun k x t v h => by
    rcases keyIs_shape h with ⟨i, u, rfl, e⟩ | ⟨y, u, rfl, e⟩
    · exact nomatch e
    · injection e with e1 _
      subst e1
      cases v <;> rfl
end L2
namespace L2
open PySem PySem.Spec PyProof.Rows
/-- a value, without the heap -/
inductive V where
  | non | bl (b : Bool) | int (i : Int) | str (x : Str) | byt (b : Array UInt8) | flt (b : UInt64) | ref (a : Addr) | ty (n : String)
  deriving DecidableEq
def RelV : V → Value → Prop
  | .non, u => u = Value.none
  | .bl b, u => u = Value.bool b
  | .int i, u => ∃ t, u = Value.int i t
  | .str x, u => ∃ t, u = Value.str x t
  | .byt b, u => ∃ t, u = Value.bytes b t
  | .flt b, u => ∃ t, u = Value.float b t
  | .ref a, u => u = Value.ref a
  | .ty n, u => u = Value.type n
abbrev Vals : List V → List Value → Prop := Paired RelV
theorem Vals.length {xs : List V} {us : List Value} (r : Vals xs us) : xs.length = us.length := Paired.length r
theorem Vals.get : ∀ {xs : List V} {us : List Value} {i : Nat} {x : V}, Vals xs us → xs[i]? = some x → ∃ u, us[i]? = some u ∧ RelV x u
  | _, _, _, _, .nil, e => by simp at e
  | _, _, 0, _, .cons r _, e => by simp at e; subst e; exact ⟨_, rfl, r⟩
  | _, _, i + 1, x, .cons _ t, e => by
    obtain ⟨u, h1, h2⟩ := Vals.get (i := i) (x := x) t (by simpa using e)
    exact ⟨u, by simpa using h1, h2⟩
theorem Vals.set {x : V} {u : Value} (r : RelV x u) : ∀ {xs : List V} {us : List Value} (i : Nat), Vals xs us → Vals (xs.set i x) (us.set i u)
  | _, _, _, .nil => .nil
  | _, _, 0, .cons _ t => .cons r t
  | _, _, i + 1, .cons q t => .cons q (Vals.set r i t)
theorem Vals.append : ∀ {xs ys : List V} {us ws : List Value}, Vals xs us → Vals ys ws → Vals (xs ++ ys) (us ++ ws)
  | _, _, _, _, .nil, s => s
  | _, _, _, _, .cons r t, s => .cons r (Vals.append t s)
theorem Vals.take : ∀ {xs : List V} {us : List Value} (n : Nat), Vals xs us → Vals (xs.take n) (us.take n)
  | _, _, 0, _ => .nil
  | _, _, _ + 1, .nil => .nil
  | _, _, n + 1, .cons r t => .cons r (Vals.take n t)
theorem Vals.drop : ∀ {xs : List V} {us : List Value} (n : Nat), Vals xs us → Vals (xs.drop n) (us.drop n)
  | _, _, 0, r => r
  | _, _, _ + 1, .nil => .nil
  | _, _, n + 1, .cons _ t => Vals.drop n t
theorem Vals.none_of : ∀ {xs : List V} {us : List Value} {i : Nat}, Vals xs us → xs[i]? = none → us[i]? = none := fun {xs us i} r e => by
  have h1 := r.length
  have h2 : xs.length ≤ i := List.getElem?_eq_none_iff.mp e
  exact List.getElem?_eq_none_iff.mpr (by omega)
def RelO : Option V → Option Value → Prop
  | some v, some u => RelV v u
  | none, none => True
  | _, _ => False
def KV {κ : Type} : List (κ × V) → List (κ × Value) → Prop := Paired fun (p : κ × V) (q : κ × Value) => p.1 = q.1 ∧ RelV p.2 q.2
/-- a key of a dict (00_mix): an int or a text -/
def kV : Key → V
  | .inl i => .int i
  | .inr x => .str x
/-- what stands at a tracked address -/
inductive HO where
  /-- a list -/
  | lst (xs : List V)
  /-- a tuple (never changes) -/
  | tup (xs : List V)
  /-- a dict whose keys are ints and texts; one whose keys are tuples of ints and texts (the empty one is both) -/
  | dK (kvs : List (Key × V)) | dT (kvs : List (List Key × V))
  /-- a set of ints: its members, its size -/
  | set (S : Int → Bool) (n : Nat)
  /-- an instance of the class at C, its dict at dx, its attributes -/
  | ins (C dx : Addr) (fs : List (Str × V))
  /-- the dict of the instance at x -/
  | own (x : Addr)
  /-- the dict of an exception -/
  | xd (fs : List (Str × V))
  /-- a bound method, f of x -/
  | met (f x : Addr)
  /-- a range object lo, lo + 1, .. below hi -/
  | rng (lo hi : Int)
  /-- a thing that is known to the object (the script; a dict while a loop walks it): read, never written while it is so -/
  | frz (o : Obj) (u : HO)
  /-- a code object's table -/
  | tbl (ps : Array Value)
  /-- any other thing, by what is true of its one object (a def of one's own: SetO a S n := HO.ext fun h => ..) -/
  | ext (φ : Heap → Prop)
abbrev Hp := Addr → Option HO
def upd (H : Hp) (a : Addr) (o : HO) : Hp := fun b => if b = a then some o else H b
theorem upd_same {H : Hp} {a : Addr} {o : HO} : upd H a o a = some o := by unfold upd; rw [if_pos rfl]
theorem upd_ne {H : Hp} {a b : Addr} {o : HO} (h : b ≠ a) : upd H a o b = H b := by unfold upd; rw [if_neg h]
theorem upd_upd {H : Hp} {a : Addr} {o u : HO} : upd (upd H a o) a u = upd H a u := by
  funext b; unfold upd; split <;> rfl
/-- two objects of different content stand apart -/
theorem ne_of {H : Hp} {a b : Addr} {o u : HO} (h : H a = some o) (h' : H b = some u) (d : o ≠ u) : a ≠ b := by
  intro e; subst e; rw [h] at h'; exact d (Option.some.inj h')
theorem ne_of_none {H : Hp} {a b : Addr} {o : HO} (h : H a = some o) (h' : H b = none) : a ≠ b := by
  intro e; subst e; rw [h] at h'; cases h'
section
variable (P : Program) (w : World)
def ObjOk (H : Hp) (h : Heap) (a : Addr) : HO → Prop
  | .lst xs => xs.length ≤ sizeLine ∧ ∃ (its : List Value) (n : Nat), Vals xs its ∧ h.get? a = some { cls := .type "list", data := .seq its.toArray n }
  | .tup xs => xs.length ≤ sizeLine ∧ ∃ its : List Value, Vals xs its ∧ IsTup h a its.toArray
  | .dK kvs => kvs.length ≤ sizeLine ∧ (a == sysModules) = false ∧ ∃ vs, KV kvs vs ∧ h.DictOf (mixKind P w) a vs
  | .dT kvs => kvs.length ≤ sizeLine ∧ (a == sysModules) = false ∧ ∃ xs : List (List Key × Addr × Value),
      Paired (fun (p : List Key × V) (q : List Key × Addr × Value) => p.1 = q.1 ∧ H q.2.1 = some (.tup (p.1.map kV)) ∧ RelV p.2 q.2.2) kvs xs ∧
      ∃ o es ep, h.get? a = some o ∧ o.ExactDict ∧ o.data = .dict es ep ∧ es.toList = xs.map (entryOfKey (tupleKind (mixKind P w))) ∧ (xs.map (·.1)).Nodup
  | .set S n => h.SetOf (intKind P w) a S n
  | .ins C dx fs => H dx = some (.own a) ∧ fs.length ≤ 1000 ∧ dx ≠ a ∧ h.get? a = some (PySem.W.instObj C dx) ∧
      ∃ mA, h.Ns1 dx mA ∧ (∀ f, RelO (fs.lookup f) (mA f)) ∧ PySem.Within mA (fs.map (·.1))
  | .own _ => ∃ o, h.get? a = some o
  | .xd fs => ∃ mA, h.Ns1 a mA ∧ ∀ f, RelO (fs.lookup f) (mA f)
  | .rng lo hi => ∃ t u v, h.get? a = some { cls := .type "range", data := .fields #[.int lo t, .int hi u, .int 1 v] }
  | .frz o u => h.get? a = some o ∧ ObjOk H h a u
  | .tbl ps => h.get? a = some { cls := .none, data := .fields ps }
  | .met f x => h.get? a = some (PySem.W.methodObj (.ref f) (.ref x))
  | .ext φ => φ h ∧ (∃ o, h.get? a = some o) ∧ ∀ h1 h2 : Heap, φ h1 → (∀ o, h1.get? a = some o → h2.get? a = some o) → φ h2
/-- the abstract heap is held -/
def HOk (H : Hp) (h : Heap) : Prop := ∀ a o, H a = some o → ObjOk P w H h a o
end
section
variable {P : Program} {w : World} {H H' : Hp} {h h' : Heap} {a : Addr} {o : HO}
theorem ObjOk.lt (x : ObjOk P w H h a o) : a < h.objs.size := by
  cases o with
  | lst xs => obtain ⟨_, _, _, _, e⟩ := x; exact Heap.lt_size e
  | tup xs => obtain ⟨_, _, _, p⟩ := x; exact p.lt
  | dK kvs => obtain ⟨_, _, _, _, o, _, _, e, _⟩ := x; exact Heap.lt_size e
  | dT kvs => obtain ⟨_, _, _, _, o, _, _, e, _⟩ := x; exact Heap.lt_size e
  | set S n => obtain ⟨o, _, _, _, e, _⟩ := x; exact Heap.lt_size e
  | ins C dx fs => obtain ⟨_, _, _, e, _⟩ := x; exact Heap.lt_size e
  | own y => obtain ⟨_, e⟩ := x; exact Heap.lt_size e
  | xd fs => obtain ⟨_, ⟨_, _, _, e, _⟩, _⟩ := x; exact Heap.lt_size e
  | rng lo hi => obtain ⟨_, _, _, e⟩ := x; exact Heap.lt_size e
  | frz ob u => obtain ⟨e, _⟩ := x; exact Heap.lt_size e
  | tbl ps => exact Heap.lt_size (show h.get? a = some _ from x)
  | met f y => exact Heap.lt_size (show h.get? a = some _ from x)
  | ext φ => obtain ⟨_, ⟨_, e⟩, _⟩ := x; exact Heap.lt_size e
theorem Paired.mapP {α β : Type} {F G : α → β → Prop} : ∀ {l₁ : List α} {l₂ : List β}, Paired F l₁ l₂ → (∀ a b, F a b → G a b) → Paired G l₁ l₂
  | _, _, .nil, _ => .nil
  | _, _, .cons r t, f => .cons (f _ _ r) (Paired.mapP t f)
/-- what an object's description leans on: its own object, its own dict, the tuples -/
theorem ObjOk.stay (x : ObjOk P w H h a o) (k : ∀ b u, (b = a ∨ H b = some (.own a)) → h.get? b = some u → h'.get? b = some u)
    (ho : ∀ b, H b = some (.own a) → H' b = some (.own a)) (ht : ∀ b xs, H b = some (.tup xs) → H' b = some (.tup xs)) : ObjOk P w H' h' a o := by
  induction o with
  | lst xs => obtain ⟨z, its, n, r, e⟩ := x; exact ⟨z, its, n, r, k _ _ (.inl rfl) e⟩
  | tup xs => obtain ⟨z, its, r, ob, e, c⟩ := x; exact ⟨z, its, r, ob, k _ _ (.inl rfl) e, c⟩
  | dK kvs => obtain ⟨z, y, vs, r, ob, es, ep, e, c⟩ := x; exact ⟨z, y, vs, r, ob, es, ep, k _ _ (.inl rfl) e, c⟩
  | dT kvs =>
    obtain ⟨z, y, xs, r, ob, es, ep, e, c⟩ := x
    exact ⟨z, y, xs, Paired.mapP r fun p q z => ⟨z.1, ht _ _ z.2.1, z.2.2⟩, ob, es, ep, k _ _ (.inl rfl) e, c⟩
  | set S n => obtain ⟨ob, es, ep, t, e, c⟩ := x; exact ⟨ob, es, ep, t, k _ _ (.inl rfl) e, c⟩
  | ins C dx fs =>
    obtain ⟨d, z, ne, e, mA, ⟨od, es, ep, e2, c⟩, r⟩ := x
    exact ⟨ho _ d, z, ne, k _ _ (.inl rfl) e, mA, ⟨od, es, ep, k _ _ (.inr d) e2, c⟩, r⟩
  | own y => obtain ⟨ob, e⟩ := x; exact ⟨ob, k _ _ (.inl rfl) e⟩
  | xd fs => obtain ⟨mA, ⟨od, es, ep, e, c⟩, r⟩ := x; exact ⟨mA, ⟨od, es, ep, k _ _ (.inl rfl) e, c⟩, r⟩
  | rng lo hi => obtain ⟨t, u, v, e⟩ := x; exact ⟨t, u, v, k _ _ (.inl rfl) e⟩
  | frz ob u ih => obtain ⟨e, q⟩ := x; exact ⟨k _ _ (.inl rfl) e, ih q⟩
  | tbl ps =>
    have e : h.get? a = some { cls := .none, data := .fields ps } := x
    show h'.get? a = some { cls := .none, data := .fields ps }
    exact k a _ (.inl rfl) e
  | met f y =>
    have e : h.get? a = some (PySem.W.methodObj (.ref f) (.ref y)) := x
    show h'.get? a = some (PySem.W.methodObj (.ref f) (.ref y))
    exact k a _ (.inl rfl) e
  | ext φ => obtain ⟨p, ⟨o, e⟩, st⟩ := x; exact ⟨st _ _ p fun o q => k _ _ (.inl rfl) q, ⟨o, k _ _ (.inl rfl) e⟩, st⟩
theorem HOk.lt (x : HOk P w H h) (e : H a = some o) : a < h.objs.size := (x a o e).lt
theorem HOk.fresh (x : HOk P w H h) (e : h.objs.size ≤ a) : H a = none := by
  cases q : H a with
  | none => rfl
  | some u => exact absurd (Nat.lt_of_lt_of_le (x.lt q) e) (Nat.lt_irrefl _)
/-- every object of the heap is kept -/
theorem HOk.kept (x : HOk P w H h) (k : ∀ b u, h.get? b = some u → h'.get? b = some u) : HOk P w H h' := fun a o e =>
  (x a o e).stay (fun b u _ q => k b u q) (fun _ q => q) fun _ _ q => q
/-- a new object is laid and tracked -/
theorem HOk.laid (x : HOk P w H h) (k : ∀ b u, h.get? b = some u → h'.get? b = some u) (hp : h.objs.size ≤ a) (new : ObjOk P w (upd H a o) h' a o) : HOk P w (upd H a o) h' := fun b u e => by
  have hn := x.fresh hp
  by_cases hb : b = a
  · subst hb; rw [upd_same] at e; cases e; exact new
  · rw [upd_ne hb] at e
    exact (x b u e).stay (fun c v _ q => k c v q) (fun c q => by rw [upd_ne (ne_of_none q hn)]; exact q) fun c xs q => by rw [upd_ne (ne_of_none q hn)]; exact q
end
/-- what may be read as u: it is u, or a known u -/
def Rd (H : Hp) (a : Addr) (u : HO) : Prop := H a = some u ∨ ∃ o, H a = some (.frz o u)
theorem Rd.of {H : Hp} {a : Addr} {u : HO} (h : H a = some u) : Rd H a u := .inl h
theorem Rd.ok {P : Program} {w : World} {H : Hp} {h : Heap} {a : Addr} {u : HO} (r : Rd H a u) (x : HOk P w H h) : ObjOk P w H h a u := by
  rcases r with r | ⟨o, r⟩
  · exact x a u r
  · obtain ⟨_, q⟩ := x a _ r
    exact q
/-- what may be written -/
def Mut : Option HO → Prop
  | some (.lst _) => True
  | some (.dK _) => True
  | some (.dT _) => True
  | some (.set _ _) => True
  | some (.ins _ _ _) => True
  | some (.ext _) => True
  | _ => False
section
variable {P : Program} {w : World} {H : Hp} {h h' : Heap} {x e : Addr} {o' : HO}
/-- the object at e is changed: x itself, or the dict of the instance x -/
theorem HOk.write (ok : HOk P w H h) (mu : Mut (H x)) (he : e = x ∨ H e = some (.own x)) (k : ∀ b u, b ≠ e → h.get? b = some u → h'.get? b = some u) (heo : ∃ u, h'.get? e = some u)
    (new : ObjOk P w (upd H x o') h' x o') : HOk P w (upd H x o') h' := fun b u q => by
  have nown : ∀ c y, H c = some (.own y) → c ≠ x := fun c y r z => by subst z; rw [r] at mu; exact mu
  have ntup : ∀ c xs, H c = some (.tup xs) → c ≠ x := fun c xs r z => by subst z; rw [r] at mu; exact mu
  by_cases hb : b = x
  · subst hb; rw [upd_same] at q; cases q; exact new
  · rw [upd_ne hb] at q
    by_cases hbe : b = e
    · have q' : H b = some (.own x) := by
        rcases he with z | z
        · exact absurd (hbe.trans z) hb
        · rw [hbe]; exact z
      rw [q] at q'; cases q'
      obtain ⟨v, hv⟩ := heo
      exact ⟨v, by rw [hbe]; exact hv⟩
    · refine (ok b u q).stay (fun c v hc r => k c v ?_ r) (fun c r => by rw [upd_ne (nown c b r)]; exact r) fun c xs r => by rw [upd_ne (ntup c xs r)]; exact r
      rcases hc with rfl | hc
      · exact hbe
      · rintro rfl
        rcases he with z | z
        · exact nown c b hc z
        · rw [hc] at z; cases z; exact hb rfl
end
structure Un (fs ex : List Addr) (H H' : Hp) (h h' : Heap) : Prop where
  keep : ∀ b o, h.get? b = some o → H b = none → b ∉ fs → b ∉ ex → h'.get? b = some o
  slot : ∀ b o, h.get? b = some o → H b = none → b ∈ fs → b ∉ ex → ∃ sl, h'.get? b = some { o with slots := sl }
  free : ∀ b o, h.get? b = some o → H b = none → b ∉ ex → H' b = none
  there : ∀ b o, h.get? b = some o → b ∉ ex → ∃ o', h'.get? b = some o'
  tups : ∀ b xs, H b = some (.tup xs) → H' b = some (.tup xs)
  frzs : ∀ b o u, H b = some (.frz o u) → H' b = some (.frz o u)
  tbls : ∀ b ps, H b = some (.tbl ps) → ∃ more, H' b = some (.tbl (ps ++ more))
section
variable {fs fs' ex ex' : List Addr} {H H1 H2 : Hp} {h h1 h2 h' : Heap} {a x e : Addr} {o : HO}
theorem Un.any (u : Un fs ex H H1 h h1) {b : Addr} {ob : Obj} (q : h.get? b = some ob) (n : H b = none) (hx : b ∉ ex) : ∃ sl, h1.get? b = some { ob with slots := sl } := by
  by_cases hb : b ∈ fs
  · exact u.slot b ob q n hb hx
  · exact ⟨ob.slots, u.keep b ob q n hb hx⟩
theorem Un.trans (a : Un fs ex H H1 h h1) (b : Un fs ex H1 H2 h1 h2) : Un fs ex H H2 h h2 where
  keep := fun c ob q n hc hx => b.keep c ob (a.keep c ob q n hc hx) (a.free c ob q n hx) hc hx
  slot := fun c ob q n hc hx => by
    obtain ⟨sl, e1⟩ := a.slot c ob q n hc hx
    obtain ⟨sl', e2⟩ := b.slot c _ e1 (a.free c ob q n hx) hc hx
    exact ⟨sl', e2⟩
  free := fun c ob q n hx => by
    obtain ⟨o', e1⟩ := a.there c ob q hx
    exact b.free c o' e1 (a.free c ob q n hx) hx
  there := fun c ob q hx => by
    obtain ⟨o', e1⟩ := a.there c ob q hx
    exact b.there c o' e1 hx
  tups := fun c xs q => b.tups c xs (a.tups c xs q)
  frzs := fun c ob xs q => b.frzs c ob xs (a.frzs c ob xs q)
  tbls := fun c ps q => by
    obtain ⟨m1, e1⟩ := a.tbls c ps q
    obtain ⟨m2, e2⟩ := b.tbls c _ e1
    exact ⟨m1 ++ m2, by rw [e2, Array.append_assoc]⟩
theorem Un.kept (k : ∀ b u, h.get? b = some u → h'.get? b = some u) : Un fs ex H H h h' :=
  ⟨fun b ob q _ _ _ => k b ob q, fun b ob q _ _ _ => ⟨ob.slots, k b ob q⟩, fun _ _ _ n _ => n, fun b ob q _ => ⟨ob, k b ob q⟩, fun _ _ q => q, fun _ _ _ q => q, fun _ ps q => ⟨#[], by rw [q]; simp⟩⟩
theorem Un.refl : Un fs ex H H h h := Un.kept fun _ _ q => q
theorem Un.laid (k : ∀ b u, h.get? b = some u → h'.get? b = some u) (hp : h.objs.size ≤ a) (hn : H a = none) : Un fs ex H (upd H a o) h h' where
  keep := fun b u q _ _ _ => k b u q
  slot := fun b u q _ _ _ => ⟨u.slots, k b u q⟩
  free := fun b u q n _ => by rw [upd_ne (Nat.ne_of_lt (Nat.lt_of_lt_of_le (Heap.lt_size q) hp))]; exact n
  there := fun b u q _ => ⟨u, k b u q⟩
  tups := fun b xs q => by rw [upd_ne (ne_of_none q hn)]; exact q
  frzs := fun b u xs q => by rw [upd_ne (ne_of_none q hn)]; exact q
  tbls := fun b ps q => ⟨#[], by rw [upd_ne (ne_of_none q hn), q]; simp⟩
theorem Un.write (mu : Mut (H x)) (he : e = x ∨ H e = some (.own x)) (k : ∀ b u, b ≠ e → h.get? b = some u → h'.get? b = some u) (heo : ∃ u, h'.get? e = some u) : Un fs ex H (upd H x o) h h' := by
  have hx : ∀ b, H b = none → b ≠ x := fun b n z => by subst z; rw [n] at mu; exact mu
  have hb : ∀ b, H b = none → b ≠ e := fun b n z => by
    subst z
    rcases he with r | r
    · exact hx b n r
    · rw [n] at r; cases r
  have hm : ∀ b u, H b = some u → ¬ Mut (some u) → b ≠ x := fun b u q nm z => by subst z; rw [q] at mu; exact nm mu
  refine ⟨fun b u q n _ _ => k b u (hb b n) q, fun b u q n _ _ => ⟨u.slots, k b u (hb b n) q⟩, fun b u q n _ => by rw [upd_ne (hx b n)]; exact n, fun b u q _ => ?_,
    fun b xs q => by rw [upd_ne (hm b _ q fun z => z)]; exact q, fun b u xs q => by rw [upd_ne (hm b _ q fun z => z)]; exact q, fun b ps q => ⟨#[], by rw [upd_ne (hm b _ q fun z => z), q]; simp⟩⟩
  by_cases hbe : b = e
  · subst hbe; exact heo
  · exact ⟨u, k b u hbe q⟩
theorem Un.mono (u : Un fs ex H H1 h h1) (hs : ∀ b ∈ fs, b ∈ fs') (hx : ∀ b ∈ ex, b ∈ ex') : Un fs' ex' H H1 h h1 :=
  ⟨fun b ob q n hb he => u.keep b ob q n (fun z => hb (hs b z)) fun z => he (hx b z), fun _ _ q n _ he => u.any q n fun z => he (hx _ z), fun b ob q n he => u.free b ob q n fun z => he (hx b z), fun b ob q he => u.there b ob q fun z => he (hx b z), u.tups, u.frzs, u.tbls⟩
end
def trk (h : Heap) (H : Hp) : List Addr := (List.range h.objs.size).filter fun a => (H a).isSome
def hidT (h : Heap) (H : Hp) : Heap := PySem.W.hideAll h (trk h H)
theorem hidT_size (h : Heap) (H : Hp) : (hidT h H).objs.size = h.objs.size := PySem.W.hideAll_size _ _
theorem hidT_get {h : Heap} {H : Hp} {b : Addr} {o : Obj} (e : h.get? b = some o) (n : H b = none) : (hidT h H).get? b = some o :=
  PySem.W.hideAll_get _ e fun hm => by
    have q : (H b).isSome = true := (List.mem_filter.mp hm).2
    rw [n] at q; simp at q
theorem of_hidT {h : Heap} {H : Hp} {b : Addr} {o : Obj} (e : (hidT h H).get? b = some o) : h.get? b = some o ∧ H b = none := by
  have e' : h.get? b = some o := PySem.W.of_hideAll (trk h H) e
  refine ⟨e', ?_⟩
  cases q : H b with
  | none => rfl
  | some x =>
    have hm : b ∈ trk h H := List.mem_filter.mpr ⟨List.mem_range.mpr (Heap.lt_size e'), by simp [q]⟩
    have z : (hidT h H).get? b = none := PySem.W.hideAll_none (trk h H) hm
    rw [z] at e; cases e
def allNews (g h : Heap) (L : Addr) : List (Addr × Obj) := (List.range h.objs.size).filterMap fun a => if a = L ∨ (g.get? a).isSome = true then none else (h.get? a).map fun o => (a, o)
def rest (g h : Heap) (L d : Addr) : List (Addr × Obj) := (allNews g h L).filter fun p => decide (p.1 ≠ d)
end L2
namespace L2
open PySem PySem.Spec PyProof.Rows
/-- the module's facts, over the base: the heap at the law's entry without what is tracked there -/
structure Mod (K : PySem.W.Frag) (mg : Str → Option Value) (base : Heap) : Prop where
  kin : K.In base
  glob : base.Ns mainGlobals mg
  blt : ∃ mb, base.Ns builtinsNs mb ∧ ∀ x : Str, x ≠ "__name__" → mb x = bootBuiltins x
  nolimit : base.NoLimit
/-- the context: a def's body (or a comprehension's block) running. base: fixed through the whole law; s₀, H₀: the entry; outer: the frames whose slots others may change (a def's callers); stack: all frames that run;
   ex: iterators that were made ahead of the entry and are walked here (a comprehension's); fn: the names whose cells were made at the entry (a def: all; a comprehension's block: its own); calm: not within an except suite; pn: pins that every state bears; xe: what is wanted of an exception that leaves the code -/
structure Cx where
  prog : Program
  w : World
  K : PySem.W.Frag
  mg : Str → Option Value
  base : Heap
  A : Around
  N : List Str
  s_0 : Shared
  H_0 : Hp
  env : Env
  outer : List Env
  stack : List Env
  ex : List Addr
  fn : Str → Bool
  calm : Bool
  pn : List (Addr × Obj)
  xe : Value → Shared → Prop
/-- the callers' frames -/
def frs (l : List Env) : List Addr := l.filterMap (·.frame)
abbrev Cx.fs (X : Cx) : List Addr := frs X.outer
def Vis (sc : Scope) (x : Str) : Prop := sc.names.lookup x = some .local ∨ sc.names.lookup x = some .cell ∨ sc.names.lookup x = some .free
def Loc (sc : Scope) (x : Str) : Prop := sc.names.lookup x = some .local ∨ sc.names.lookup x = some .cell
def Look (env : Env) (h : Heap) (m : Str → Option Value) (x : Str) (u : Value) : Prop :=
  (env.kindOf x = some .local ∧ m x = some u) ∨ ((env.kindOf x = some .cell ∨ env.kindOf x = some .free) ∧ ∃ c, env.cells.lookup x = some c ∧ h.IsCell c (some u))
structure Cx.Ok (X : Cx) : Prop where
  mod : Mod X.K X.mg X.base
  kind : X.env.scope.kind = .function
  glob : X.env.globals = mainGlobals
  blt : X.env.builtins = builtinsNs
  above : X.s_0.heap.objs.size ≤ X.env.locals
  inj : ∀ x y c, X.env.cells.lookup x = some c → X.env.cells.lookup y = some c → x = y
  has : ∀ x, (X.env.kindOf x = some .cell ∨ X.env.kindOf x = some .free) → ∃ c, X.env.cells.lookup x = some c
  cab : ∀ x c, X.fn x = true → X.env.cells.lookup x = some c → X.s_0.heap.objs.size ≤ c
  hd : X.calm = true → X.A.handled = none
  frames : X.A.frames = some X.stack
  stk : X.stack = X.outer ∨ (X.stack = X.env :: X.outer ∧ X.env.frame = some X.env.locals)
  exf : ∀ b ∈ X.ex, b ≠ X.env.locals ∧ ∀ x c, X.env.cells.lookup x = some c → c ≠ b
  bs : ∀ b o, X.base.get? b = some o → X.s_0.heap.get? b = some o ∧ X.H_0 b = none
  bsz : X.base.objs.size ≤ X.s_0.heap.objs.size
  noex : ∀ b o, X.base.get? b = some o → b ∉ X.ex
  exfs : ∀ b ∈ X.ex, b ∉ X.fs
  funs : X.s_0.heap.FunFrames X.base X.outer
  frf : ∀ b ∈ X.fs, X.H_0 b = none
structure Inv (X : Cx) (pins : List (Addr × Obj)) (σ : List (Option V)) (H : Hp) (s : Shared) : Prop where
  ok : X.Ok
  os : s.os = X.s_0.os
  bare : AllBare s.gens
  base : Un X.fs X.ex X.H_0 H X.s_0.heap s.heap
  loc : ∃ m, s.heap.Ns X.env.locals m ∧ ∀ (i : Nat) (x : Str) (v : V), X.N[i]? = some x → σ[i]? = some (some v) → Vis X.env.scope x → ∃ u, RelV v u ∧ Look X.env s.heap m x u
  cell : ∀ x c, X.env.cells.lookup x = some c → ∃ v, s.heap.IsCell c v
  free : H X.env.locals = none
  freeC : ∀ x c, X.env.cells.lookup x = some c → H c = none
  pin : ∀ p ∈ X.pn ++ pins, s.heap.get? p.1 = some p.2 ∧ H p.1 = none ∧ p.1 ≠ X.env.locals ∧ p.1 ∉ X.fs ∧ ∀ v, p.2.data ≠ .cell v
  hok : HOk X.prog X.w H s.heap
  len : σ.length = X.N.length
section
variable {X : Cx} {pins : List (Addr × Obj)} {σ : List (Option V)} {H H' : Hp} {s : Shared} {h' : Heap}
theorem Cx.Ok.nofr (ok : X.Ok) {b : Addr} {o : Obj} (e : X.base.get? b = some o) : b ∉ X.fs := fun hb => by
  have := (ok.funs.mem hb).1
  rw [e] at this; cases this
theorem Inv.bs (I : Inv X pins σ H s) : ∀ b o, X.base.get? b = some o → s.heap.get? b = some o ∧ H b = none := fun b o e =>
  ⟨I.base.keep b o (I.ok.bs b o e).1 (I.ok.bs b o e).2 (I.ok.nofr e) (I.ok.noex b o e), I.base.free b o (I.ok.bs b o e).1 (I.ok.bs b o e).2 (I.ok.noex b o e)⟩
theorem Inv.bk (I : Inv X pins σ H s) : ∀ b o, X.base.get? b = some o → s.heap.get? b = some o := fun b o e => (I.bs b o e).1
theorem Inv.mod (I : Inv X pins σ H s) : Mod X.K X.mg X.base := I.ok.mod
theorem Inv.kIn (I : Inv X pins σ H s) : X.K.In s.heap := I.ok.mod.kin.keeps I.bk
theorem Inv.nolimit (I : Inv X pins σ H s) : s.heap.NoLimit := I.ok.mod.nolimit.keeps I.bk
theorem Inv.lt (I : Inv X pins σ H s) : X.env.locals < s.heap.objs.size := let ⟨_, hn, _⟩ := I.loc; hn.lt
theorem Inv.sz (I : Inv X pins σ H s) : X.s_0.heap.objs.size ≤ s.heap.objs.size := Nat.le_trans I.ok.above (Nat.le_of_lt I.lt)
theorem Inv.nofs (I : Inv X pins σ H s) {a : Addr} (h : s.heap.objs.size ≤ a) : a ∉ X.fs := fun hb => by
  obtain ⟨_, o, ho, _⟩ := I.ok.funs.mem hb
  exact absurd (Nat.lt_of_lt_of_le (Heap.lt_size ho) (Nat.le_trans I.sz h)) (Nat.lt_irrefl _)
theorem Inv.cne (I : Inv X pins σ H s) : ∀ x c, X.env.cells.lookup x = some c → c ≠ X.env.locals := fun x c e z => by
  obtain ⟨v, o, ho, hd⟩ := I.cell x c e
  obtain ⟨m, ⟨o', es, ep, ho', hd', _⟩, _⟩ := I.loc
  rw [z, ho'] at ho; cases ho; rw [hd'] at hd; cases hd
theorem Inv.funs (I : Inv X pins σ H s) : s.heap.FunFrames X.base X.outer := by
  have all : ∀ (l : List Env), (∀ b ∈ frs l, b ∈ X.fs) → X.s_0.heap.FunFrames X.base l → s.heap.FunFrames X.base l := by
    intro l
    induction l with
    | nil => intro _ _; trivial
    | cons env r ih =>
      intro hs hl
      obtain ⟨hk, ⟨L, o, hf, hn, ho, hd⟩, hr⟩ := hl
      have hL : L ∈ X.fs := hs L (by unfold frs; rw [List.filterMap_cons, hf]; exact List.mem_cons_self)
      obtain ⟨sl, e⟩ := I.base.slot L o ho (I.ok.frf L hL) hL fun z => I.ok.exfs L z hL
      exact ⟨hk, ⟨L, _, hf, hn, e, hd⟩, ih (fun b hb => hs b (by unfold frs; rw [List.filterMap_cons, hf]; exact List.mem_cons_of_mem _ hb)) hr⟩
  exact all X.outer (fun _ hb => hb) I.ok.funs
/-- the frames that run, for a call -/
theorem Inv.stack (I : Inv X pins σ H s) : s.heap.FunFrames X.base X.stack := by
  rcases I.ok.stk with e | ⟨e, hf⟩
  · rw [e]; exact I.funs
  · rw [e]
    obtain ⟨m, hn, _⟩ := I.loc
    refine .cons (by rw [I.ok.kind]; decide) hf hn ?_ I.funs
    exact Heap.get?_none_of_le (Nat.le_trans I.ok.bsz I.ok.above)
theorem Inv.stkSub (I : Inv X pins σ H s) : ∀ b ∈ frs X.stack, b ∈ X.env.locals :: X.fs := fun b hb => by
  rcases I.ok.stk with e | ⟨e, hf⟩
  · rw [e] at hb; exact List.mem_cons_of_mem _ hb
  · rw [e] at hb
    unfold frs at hb
    rw [List.filterMap_cons, hf] at hb
    exact hb
theorem Inv.stkFree (I : Inv X pins σ H s) : ∀ b ∈ frs X.stack, H b = none := fun b hb => by
  rcases List.mem_cons.mp (I.stkSub b hb) with e | hb
  · rw [e]; exact I.free
  · obtain ⟨_, o, ho, _⟩ := I.ok.funs.mem hb
    exact I.base.free b o ho (I.ok.frf b hb) fun z => I.ok.exfs b z hb
/-- THE STEP: the untracked objects but the frame and the records at ch are kept (the callers' frames up to slots), the frame's map is kept, the new abstract heap is held -/
theorem Inv.step {g' : Array GenState} {t' : Nat} {d' : Drawn} {ch : List Addr} (I : Inv X pins σ H s)
    (hch : ∀ b ∈ ch, (b ∈ X.ex ∨ X.s_0.heap.objs.size ≤ b) ∧ b ≠ X.env.locals ∧ (∀ x c, X.env.cells.lookup x = some c → c ≠ b) ∧ ∀ p ∈ X.pn ++ pins, p.1 ≠ b)
    (keep : ∀ b o, b ≠ X.env.locals → b ∉ X.fs → b ∉ ch → s.heap.get? b = some o → H b = none → h'.get? b = some o)
    (slot : ∀ b o, b ≠ X.env.locals → b ∈ X.fs → b ∉ ch → s.heap.get? b = some o → H b = none → ∃ sl, h'.get? b = some { o with slots := sl }) (free : ∀ b o, b ∉ ch → s.heap.get? b = some o → H b = none → H' b = none)
    (there : ∀ b o, b ∉ ch → s.heap.get? b = some o → ∃ o', h'.get? b = some o')
    (tups : ∀ b xs, H b = some (.tup xs) → H' b = some (.tup xs)) (frzs : ∀ b o u, H b = some (.frz o u) → H' b = some (.frz o u)) (tbls : ∀ b ps, H b = some (.tbl ps) → ∃ more, H' b = some (.tbl (ps ++ more)))
    (ns : ∀ m, s.heap.Ns X.env.locals m → h'.Ns X.env.locals m) (hok : HOk X.prog X.w H' h') (hg : AllBare g') :
    Inv X pins σ H' { s with heap := h', gens := g', drawn := d', toks := t' } := by
  have neL : ∀ b o, X.s_0.heap.get? b = some o → b ≠ X.env.locals := fun b o e => Nat.ne_of_lt (Nat.lt_of_lt_of_le (Heap.lt_size e) I.ok.above)
  have neC : ∀ b o, X.s_0.heap.get? b = some o → b ∉ X.ex → b ∉ ch := fun b o e hx hb => by
    rcases (hch b hb).1 with z | z
    · exact hx z
    · exact absurd (Nat.lt_of_lt_of_le (Heap.lt_size e) z) (Nat.lt_irrefl _)
  have cellK : ∀ x c, X.env.cells.lookup x = some c → ∀ v, s.heap.IsCell c v → h'.IsCell c v := fun x c e v ⟨o, ho, hd⟩ => by
    have nch : c ∉ ch := fun z => (hch c z).2.2.1 x c e rfl
    by_cases hc : c ∈ X.fs
    · obtain ⟨sl, q⟩ := slot c o (I.cne x c e) hc nch ho (I.freeC x c e)
      exact ⟨_, q, hd⟩
    · exact ⟨o, keep c o (I.cne x c e) hc nch ho (I.freeC x c e), hd⟩
  refine ⟨I.ok, I.os, hg, ⟨fun b o e n hb hx => ?_, fun b o e n hb hx => ?_, fun b o e n hx => ?_, fun b o e hx => ?_, fun b xs e => tups b xs (I.base.tups b xs e), fun b o xs e => frzs b o xs (I.base.frzs b o xs e), fun b ps e => ?_⟩, ?_, fun x c e => ?_, ?_, fun x c e => ?_, fun p hp => ?_, hok, I.len⟩
  · exact keep b o (neL b o e) hb (neC b o e hx) (I.base.keep b o e n hb hx) (I.base.free b o e n hx)
  · obtain ⟨sl, e1⟩ := I.base.slot b o e n hb hx
    obtain ⟨sl', e2⟩ := slot b _ (neL b o e) hb (neC b o e hx) e1 (I.base.free b o e n hx)
    exact ⟨sl', e2⟩
  · obtain ⟨o', e1⟩ := I.base.there b o e hx
    exact free b o' (neC b o e hx) e1 (I.base.free b o e n hx)
  · obtain ⟨o', e1⟩ := I.base.there b o e hx
    exact there b o' (neC b o e hx) e1
  · obtain ⟨m1, e1⟩ := I.base.tbls b ps e
    obtain ⟨m2, e2⟩ := tbls b _ e1
    exact ⟨m1 ++ m2, by rw [e2, Array.append_assoc]⟩
  · obtain ⟨m, hn, hl⟩ := I.loc
    refine ⟨m, ns m hn, fun i x v e1 e2 e3 => ?_⟩
    obtain ⟨u, r, l⟩ := hl i x v e1 e2 e3
    refine ⟨u, r, ?_⟩
    rcases l with l | ⟨k, c, e, z⟩
    · exact .inl l
    · exact .inr ⟨k, c, e, cellK x c e _ z⟩
  · obtain ⟨v, z⟩ := I.cell x c e
    exact ⟨v, cellK x c e v z⟩
  · obtain ⟨m, ⟨o, _, _, ho, _⟩, _⟩ := I.loc
    exact free _ o (fun z => (hch _ z).2.1 rfl) ho I.free
  · obtain ⟨v, o, ho, hd⟩ := I.cell x c e
    exact free c o (fun z => (hch c z).2.2.1 x c e rfl) ho (I.freeC x c e)
  · obtain ⟨e, n, ne, nf, d⟩ := I.pin p hp
    have nch : p.1 ∉ ch := fun z => (hch p.1 z).2.2.2 p hp rfl
    exact ⟨keep p.1 p.2 ne nf nch e n, free p.1 p.2 nch e n, ne, nf, d⟩
/-- .. where the frame's own object is kept too -/
theorem Inv.un {t' : Nat} (I : Inv X pins σ H s) (u : Un X.fs [] H H' s.heap h') (hok : HOk X.prog X.w H' h') : Inv X pins σ H' { s with heap := h', toks := t' } := by
  obtain ⟨m, ⟨o, es, ep, ho, r⟩, _⟩ := id I.loc
  obtain ⟨sl, hL⟩ := u.any ho I.free (by simp)
  exact I.step (g' := s.gens) (d' := s.drawn) (ch := []) (fun _ z => nomatch z) (fun b o _ hb _ e n => u.keep b o e n hb (by simp)) (fun b o _ hb _ e n => u.slot b o e n hb (by simp)) (fun b o _ e n => u.free b o e n (by simp)) (fun b o _ e => u.there b o e (by simp)) u.tups u.frzs u.tbls (fun m' hm => by
    obtain ⟨o', es', ep', ho', r'⟩ := hm
    rw [ho] at ho'; cases ho'
    exact ⟨_, es', ep', hL, r'⟩) hok I.bare
/-- behind a call (or a comprehension's block): the slots of this frame may have changed too, the records at ch may have turned -/
theorem Inv.call {g' : Array GenState} {t' : Nat} {d' : Drawn} {ch : List Addr} (I : Inv X pins σ H s) (u : Un (frs X.stack) ch H H' s.heap h') (hok : HOk X.prog X.w H' h') (hg : AllBare g')
    (hch : ∀ b ∈ ch, (b ∈ X.ex ∨ X.s_0.heap.objs.size ≤ b) ∧ b ≠ X.env.locals ∧ (∀ x c, X.env.cells.lookup x = some c → c ≠ b) ∧ ∀ p ∈ X.pn ++ pins, p.1 ≠ b) :
    Inv X pins σ H' { s with heap := h', gens := g', drawn := d', toks := t' } := by
  obtain ⟨m, ⟨o, es, ep, ho, r⟩, _⟩ := id I.loc
  obtain ⟨sl, hL⟩ := u.any ho I.free fun z => (hch _ z).2.1 rfl
  exact I.step (ch := ch) hch (fun b o hL hb hc e n => u.keep b o e n (fun z => (List.mem_cons.mp (I.stkSub b z)).elim hL hb) hc) (fun b o _ _ hc e n => u.any e n hc) (fun b o hc e n => u.free b o e n hc) (fun b o hc e => u.there b o e hc) u.tups u.frzs u.tbls (fun m' hm => by
    obtain ⟨o', es', ep', ho', r'⟩ := hm
    rw [ho] at ho'; cases ho'
    exact ⟨_, es', ep', hL, r'⟩) hok hg
/-- an untracked record of ours (an iterator) has turned -/
theorem Inv.turned {t' : Nat} {it : Addr} (I : Inv X pins σ H s) (k : ∀ b o, b ≠ it → s.heap.get? b = some o → h'.get? b = some o) (hn : H it = none) (hL : it ≠ X.env.locals)
    (h1 : it ∈ X.ex ∨ X.s_0.heap.objs.size ≤ it) (h2 : ∀ x c, X.env.cells.lookup x = some c → c ≠ it) (h3 : ∀ p ∈ X.pn ++ pins, p.1 ≠ it) : Inv X pins σ H { s with heap := h', toks := t' } := by
  have nit : ∀ b u, H b = some u → b ≠ it := fun b u e z => by rw [z, hn] at e; cases e
  refine I.step (g' := s.gens) (d' := s.drawn) (ch := [it]) (fun b hb => ?_) (fun b o _ _ hc e _ => k b o (fun z => hc (by simp [z])) e) (fun b o _ _ hc e _ => ⟨o.slots, k b o (fun z => hc (by simp [z])) e⟩) (fun _ _ _ _ n => n)
    (fun b o hc e => ⟨o, k b o (fun z => hc (by simp [z])) e⟩) (fun _ _ e => e) (fun _ _ _ e => e) (fun b ps e => ⟨#[], by rw [e]; simp⟩) (fun m hm => ?_) (fun b u e => ?_) I.bare
  · have e : b = it := by simpa using hb
    subst e
    exact ⟨h1, hL, h2, h3⟩
  · obtain ⟨o, es, ep, ho, r⟩ := hm
    exact ⟨o, es, ep, k _ o (Ne.symm hL) ho, r⟩
  · refine (I.hok b u e).stay (fun c v hc q => k c v ?_ q) (fun _ q => q) fun _ _ q => q
    rcases hc with z | z
    · rw [z]; exact nit b u e
    · exact nit c _ z
theorem Inv.tok (I : Inv X pins σ H s) (t : Nat) : Inv X pins σ H { s with toks := t } := I.un (h' := s.heap) (t' := t) Un.refl I.hok
/-- all objects kept -/
theorem Inv.kept {t' : Nat} (I : Inv X pins σ H s) (k : ∀ b u, s.heap.get? b = some u → h'.get? b = some u) : Inv X pins σ H { s with heap := h', toks := t' } := I.un (Un.kept k) (I.hok.kept k)
/-- a new object laid and tracked -/
theorem Inv.laid {a : Addr} {o : HO} {t' : Nat} (I : Inv X pins σ H s) (k : ∀ b u, s.heap.get? b = some u → h'.get? b = some u) (hp : s.heap.objs.size ≤ a) (new : ObjOk X.prog X.w (upd H a o) h' a o) :
    Inv X pins σ (upd H a o) { s with heap := h', toks := t' } := I.un (Un.laid k hp (I.hok.fresh hp)) (I.hok.laid k hp new)
/-- an object written -/
theorem Inv.write {x e : Addr} {o : HO} {t' : Nat} (I : Inv X pins σ H s) (mu : Mut (H x)) (he : e = x ∨ H e = some (.own x)) (k : ∀ b u, b ≠ e → s.heap.get? b = some u → h'.get? b = some u) (heo : ∃ u, h'.get? e = some u)
    (new : ObjOk X.prog X.w (upd H x o) h' x o) : Inv X pins σ (upd H x o) { s with heap := h', toks := t' } := I.un (Un.write mu he k heo) (I.hok.write mu he k heo new)
/-- forgetting slots, pins -/
theorem Inv.weak {σ' : List (Option V)} (I : Inv X pins σ H s) (hl : σ'.length = σ.length) (w : ∀ (i : Nat) v, σ'[i]? = some (some v) → σ[i]? = some (some v)) : Inv X pins σ' H s :=
  ⟨I.ok, I.os, I.bare, I.base, let ⟨m, hn, hl'⟩ := I.loc; ⟨m, hn, fun i x v e1 e2 e3 => hl' i x v e1 (w i v e2) e3⟩, I.cell, I.free, I.freeC, I.pin, I.hok, hl.trans I.len⟩
theorem Inv.pins_of {pins' : List (Addr × Obj)} (I : Inv X pins σ H s) (h : ∀ p ∈ pins', s.heap.get? p.1 = some p.2 ∧ H p.1 = none ∧ p.1 ≠ X.env.locals ∧ p.1 ∉ X.fs ∧ ∀ v, p.2.data ≠ .cell v) : Inv X pins' σ H s :=
  ⟨I.ok, I.os, I.bare, I.base, I.loc, I.cell, I.free, I.freeC, fun p hp => (List.mem_append.mp hp).elim (fun z => I.pin p (List.mem_append_left _ z)) (h p), I.hok, I.len⟩
theorem nodup_ix {N : List Str} (hN : N.Nodup) {i j : Nat} {x : Str} (a : N[i]? = some x) (b : N[j]? = some x) : i = j := by
  obtain ⟨h1, e1⟩ := List.getElem?_eq_some_iff.mp a
  obtain ⟨h2, e2⟩ := List.getElem?_eq_some_iff.mp b
  exact (List.getElem_inj hN).mp (e1.trans e2.symm)
/-- a name is stored; what changed -/
theorem store_ok2 {M : Model} {A : Around} {E : Value → Shared → Prop} {i : Nat} {x : Str} {v : V} {u : Value} {Q : Unit → Shared → Prop} (I : Inv X pins σ H s) (hN : X.N.Nodup) (hi : X.N[i]? = some x) (hx : Loc X.env.scope x) (r : RelV v u)
    (h : ∀ s', Inv X pins (σ.set i (some v)) H s' → (∃ a, Heap.SameBut a s.heap s'.heap ∧ (a = X.env.locals ∨ X.env.cells.lookup x = some a)) → Q () s') (hf : X.fn x = true ∨ X.env.scope.names.lookup x = some .local := by first | exact .inl rfl | exact .inr rfl | assumption) : wpAny M A (storeName X.env x u) Q E s := by
  obtain ⟨m, hn, hl⟩ := id I.loc
  have hcls : (X.env.scope.kind == .class || (X.env.scope.kind == .module && X.env.locals != X.env.globals)) = false := by rw [I.ok.kind]; rfl
  have hiσ : i < σ.length := by rw [I.len]; exact (List.getElem?_eq_some_iff.mp hi).1
  have cne := I.cne
  have tracked : ∀ {a : Addr} {h' : Heap}, (∃ o, s.heap.get? a = some o ∧ H a = none) → Heap.SameBut a s.heap h' → HOk X.prog X.w H h' := fun {a h'} ha hs b ob e => by
    obtain ⟨_, _, hfree⟩ := ha
    refine (I.hok b ob e).stay (fun c w' hc q => (hs.2 c ?_).trans q) (fun _ q => q) fun _ _ q => q
    rintro rfl
    rcases hc with rfl | hc
    · rw [hfree] at e; cases e
    · rw [hfree] at hc; cases hc
  rcases hx with hk | hk
  · refine wpAny_storeName_local hk hn (fun h' hn' hs => ?_) hcls
    obtain ⟨oL, _, _, hoL, _⟩ := id hn
    refine h _ ⟨I.ok, I.os, I.bare, ⟨fun b o e n hb hx => ?_, fun b o e n hb hx => ?_, I.base.free, fun b o e hx => ?_, I.base.tups, I.base.frzs, I.base.tbls⟩, ⟨_, hn', fun j y v' e1 e2 e3 => ?_⟩, fun y c e => ?_, I.free, I.freeC, fun p hp => ?_, tracked ⟨oL, hoL, I.free⟩ hs, by simpa using I.len⟩ ⟨_, hs, .inl rfl⟩
    · exact (hs.2 b (Nat.ne_of_lt (Nat.lt_of_lt_of_le (Heap.lt_size e) I.ok.above))).trans (I.base.keep b o e n hb hx)
    · obtain ⟨sl, e1⟩ := I.base.slot b o e n hb hx
      exact ⟨sl, (hs.2 b (Nat.ne_of_lt (Nat.lt_of_lt_of_le (Heap.lt_size e) I.ok.above))).trans e1⟩
    · obtain ⟨o', e1⟩ := I.base.there b o e hx
      exact ⟨o', (hs.2 b (Nat.ne_of_lt (Nat.lt_of_lt_of_le (Heap.lt_size e) I.ok.above))).trans e1⟩
    · by_cases hj : j = i
      · subst hj
        rw [hi] at e1; cases e1
        rw [List.getElem?_set_self hiσ] at e2
        cases e2
        exact ⟨u, r, .inl ⟨hk, by simp⟩⟩
      · rw [List.getElem?_set_ne (Ne.symm hj)] at e2
        obtain ⟨u', r', q⟩ := hl j y v' e1 e2 e3
        refine ⟨u', r', ?_⟩
        rcases q with ⟨k, e⟩ | ⟨k, c, e, z⟩
        · refine .inl ⟨k, ?_⟩
          have : y ≠ x := fun e => hj (nodup_ix hN e1 (e ▸ hi))
          simp [this, e]
        · exact .inr ⟨k, c, e, z.sameBut hs (cne y c e)⟩
    · obtain ⟨w', z⟩ := I.cell y c e
      exact ⟨w', z.sameBut hs (cne y c e)⟩
    · obtain ⟨e, n, ne, nf, d⟩ := I.pin p hp
      exact ⟨(hs.2 p.1 ne).trans e, n, ne, nf, d⟩
  · have hfn : X.fn x = true := by
      rcases hf with z | z
      · exact z
      · rw [z] at hk; cases hk
    obtain ⟨c, hc⟩ := I.ok.has x (.inl hk)
    obtain ⟨w', z⟩ := I.cell x c hc
    refine wpAny_storeName_cell I.ok.kind hk hc z (fun h' hc' hs => ?_)
    obtain ⟨oc, hoc, hocd⟩ := id z
    refine h { s with heap := h' } ⟨I.ok, I.os, I.bare, ⟨fun b o e n hb hx => ?_, fun b o e n hb hx => ?_, I.base.free, fun b o e hx => ?_, I.base.tups, I.base.frzs, I.base.tbls⟩, ⟨m, hn.sameBut hs (Ne.symm (cne x c hc)), fun j y v' e1 e2 e3 => ?_⟩, fun y c' e => ?_, I.free, I.freeC, fun p hp => ?_, tracked ⟨oc, hoc, I.freeC x c hc⟩ hs, by simpa using I.len⟩ ⟨c, hs, .inr hc⟩
    · exact (hs.2 b (Nat.ne_of_lt (Nat.lt_of_lt_of_le (Heap.lt_size e) (I.ok.cab x c hfn hc)))).trans (I.base.keep b o e n hb hx)
    · obtain ⟨sl, e1⟩ := I.base.slot b o e n hb hx
      exact ⟨sl, (hs.2 b (Nat.ne_of_lt (Nat.lt_of_lt_of_le (Heap.lt_size e) (I.ok.cab x c hfn hc)))).trans e1⟩
    · obtain ⟨o', e1⟩ := I.base.there b o e hx
      exact ⟨o', (hs.2 b (Nat.ne_of_lt (Nat.lt_of_lt_of_le (Heap.lt_size e) (I.ok.cab x c hfn hc)))).trans e1⟩
    · by_cases hj : j = i
      · subst hj
        rw [hi] at e1; cases e1
        rw [List.getElem?_set_self hiσ] at e2
        cases e2
        exact ⟨u, r, .inr ⟨.inl hk, c, hc, hc'⟩⟩
      · rw [List.getElem?_set_ne (Ne.symm hj)] at e2
        obtain ⟨u', r', q⟩ := hl j y v' e1 e2 e3
        refine ⟨u', r', ?_⟩
        rcases q with q | ⟨k, c', e, z'⟩
        · exact .inl q
        · refine .inr ⟨k, c', e, z'.sameBut hs ?_⟩
          rintro rfl
          exact hj (nodup_ix hN e1 (I.ok.inj _ _ _ e hc ▸ hi))
    · by_cases hcc : c' = c
      · subst hcc; exact ⟨_, hc'⟩
      · obtain ⟨w2, z2⟩ := I.cell y c' e
        exact ⟨w2, z2.sameBut hs hcc⟩
    · obtain ⟨e, n, ne, nf, d⟩ := I.pin p hp
      refine ⟨(hs.2 p.1 ?_).trans e, n, ne, nf, d⟩
      intro q
      rw [q, hoc] at e
      have q' : oc = p.2 := Option.some.inj e
      exact d w' (by rw [← q']; exact hocd)
theorem store_ok {M : Model} {A : Around} {E : Value → Shared → Prop} {i : Nat} {x : Str} {v : V} {u : Value} {Q : Unit → Shared → Prop} (I : Inv X pins σ H s) (hN : X.N.Nodup) (hi : X.N[i]? = some x) (hx : Loc X.env.scope x) (r : RelV v u)
    (h : ∀ s', Inv X pins (σ.set i (some v)) H s' → Q () s') (hf : X.fn x = true ∨ X.env.scope.names.lookup x = some .local := by first | exact .inl rfl | exact .inr rfl | assumption) : wpAny M A (storeName X.env x u) Q E s :=
  store_ok2 I hN hi hx r (fun s' I' _ => h s' I') hf
/-- behind a call or a block, the state as it is -/
theorem Inv.call' {s' : Shared} {ch : List Addr} (I : Inv X pins σ H s) (ho : s'.os = s.os) (u : Un (frs X.stack) ch H H' s.heap s'.heap) (hok : HOk X.prog X.w H' s'.heap) (hg : AllBare s'.gens)
    (hch : ∀ b ∈ ch, (b ∈ X.ex ∨ X.s_0.heap.objs.size ≤ b) ∧ b ≠ X.env.locals ∧ (∀ x c, X.env.cells.lookup x = some c → c ≠ b) ∧ ∀ p ∈ X.pn ++ pins, p.1 ≠ b) : Inv X pins σ H' s' := by
  obtain ⟨h', g', d', t', o'⟩ := s'
  have e : o' = s.os := ho
  subst e
  exact I.call (g' := g') (t' := t') (d' := d') u hok hg hch
end
/-- an exception: its class, its own dict's address (where it has one), the abstract heap behind it -/
abbrev XK := Value → Option Addr → Hp → Prop
abbrev St := List (Option V)
abbrev VK := V → Hp → Prop
/-- an expression's reading; a test's; an argument list's -/
abbrev TE := St → Hp → VK → Prop
abbrev TT := St → Hp → (Bool → Hp → Prop) → Prop
abbrev TA := St → Hp → (List V → Hp → Prop) → Prop
/-- what is wanted behind a statement -/
structure Ends where
  nx : St → Hp → Prop
  rt : VK
  bk : St → Hp → Prop := fun _ _ => False
  ct : St → Hp → Prop := fun _ _ => False
abbrev TS := Ends → St → Hp → Prop
def EP (X : Cx) (pins : List (Addr × Obj)) (σ : St) (Q : VK) (u : Value) (s' : Shared) : Prop := ∃ v H', Inv X pins σ H' s' ∧ RelV v u ∧ Q v H'
def TP (X : Cx) (pins : List (Addr × Obj)) (σ : St) (Q : Bool → Hp → Prop) (b : Bool) (s' : Shared) : Prop := ∃ H', Inv X pins σ H' s' ∧ Q b H'
def AP (X : Cx) (pins : List (Addr × Obj)) (σ : St) (Q : List V → Hp → Prop) (us : List Value) (s' : Shared) : Prop := ∃ vs H', Inv X pins σ H' s' ∧ Vals vs us ∧ Q vs H'
def SP (X : Cx) (pins : List (Addr × Obj)) (D : Ends) (f : Flow) (s' : Shared) : Prop :=
  match f with
  | .next => ∃ σ' H', Inv X pins σ' H' s' ∧ D.nx σ' H'
  | .brk => ∃ σ' H', Inv X pins σ' H' s' ∧ D.bk σ' H'
  | .cont => ∃ σ' H', Inv X pins σ' H' s' ∧ D.ct σ' H'
  | .ret u => ∃ v σ' H', Inv X pins σ' H' s' ∧ RelV v u ∧ D.rt v H'
def PE (X : Cx) (e : Expr) (t : TE) : Prop :=
  ∀ (pins : List (Addr × Obj)) (s : Shared) (σ : St) (H : Hp) (Q : VK), Inv X pins σ H s → t σ H Q → wpAny (model X.prog X.w) X.A (eval e X.env) (EP X pins σ Q) X.xe s
def PT (X : Cx) (e : Expr) (t : TT) : Prop :=
  ∀ (pins : List (Addr × Obj)) (s : Shared) (σ : St) (H : Hp) (Q : Bool → Hp → Prop), Inv X pins σ H s → t σ H Q → wpAny (model X.prog X.w) X.A (isTrue e X.env (eval e X.env)) (TP X pins σ Q) X.xe s
/-- a test whatever its 'whole' is (and, or) -/
def PW (X : Cx) (e : Expr) (t : TT) : Prop :=
  ∀ (whole : Sem Value) (pins : List (Addr × Obj)) (s : Shared) (σ : St) (H : Hp) (Q : Bool → Hp → Prop), Inv X pins σ H s → t σ H Q → wpAny (model X.prog X.w) X.A (isTrue e X.env whole) (TP X pins σ Q) X.xe s
theorem PW.pt {X : Cx} {e : Expr} {t : TT} (h : PW X e t) : PT X e t := h _
/-- an argument list (no star), from the left -/
def PA (X : Cx) (es : List Expr) (t : TA) : Prop :=
  ∀ (pos : Pos) (pins : List (Addr × Obj)) (s : Shared) (σ : St) (H : Hp) (Q : List V → Hp → Prop), Inv X pins σ H s → t σ H Q → wpAny (model X.prog X.w) X.A (spliced (backTo pos (starEach es X.env))) (AP X pins σ Q) X.xe s
def PS (X : Cx) (st : Stmt) (t : TS) : Prop :=
  ∀ (pins : List (Addr × Obj)) (s : Shared) (σ : St) (H : Hp) (D : Ends), Inv X pins σ H s → t D σ H → wpAny (model X.prog X.w) X.A (exec st X.env) (SP X pins D) X.xe s
def PSs (X : Cx) (st : List Stmt) (t : TS) : Prop :=
  ∀ (pins : List (Addr × Obj)) (s : Shared) (σ : St) (H : Hp) (D : Ends), Inv X pins σ H s → t D σ H → wpAny (model X.prog X.w) X.A (execs st X.env) (SP X pins D) X.xe s
/-- weaken the end -/
theorem thn {α : Type} {t : Sem α} {Q Q' : α → Shared → Prop} {M : Model} {A : Around} {E : Value → Shared → Prop} {s : Shared} (h : wpAny M A t Q E s) (hQ : ∀ a s, Q a s → Q' a s) : wpAny M A t Q' E s := wpAny_mono h hQ fun _ _ x => x
end L2
namespace L2
open PySem PySem.Spec PyProof.Rows
section
variable {X : Cx}
def tVar (i : Nat) : TE := fun σ H Q => ∃ v, σ[i]? = some (some v) ∧ Q v H
def tC (v : V) : TE := fun _ H Q => Q v H
theorem pe_var {i : Nat} {x : Str} {pos : Pos} (hN : X.N[i]? = some x) (hv : Vis X.env.scope x) (hd : (x == ("__debug__" : Str)) = false := by decide) (hcd : (x == ("__classdict__" : Str)) = false := by decide) : PE X (.Name x pos) (tVar i) := by
  intro pins s σ H Q I h
  obtain ⟨v, e, h⟩ := h
  obtain ⟨m, hn, hl⟩ := I.loc
  obtain ⟨u, r, l⟩ := hl i x v hN e hv
  have fin : EP X pins σ Q u s := ⟨v, H, I, r, h⟩
  rcases l with ⟨hk, hm⟩ | ⟨hk, c, hc, hcell⟩
  · exact wpAny_Name (wpAny_loadName_local I.ok.kind hk hn hm fin) hd
  · rcases hk with hk | hk
    · exact wpAny_Name (wpAny_loadName_cell I.ok.kind hk hc hcell fin) hd
    · exact wpAny_Name (wpAny_loadName_free I.ok.kind hk hc hcell fin hcd) hd
theorem pe_int {i j pos} : PE X (.Constant (.int i) j pos) (tC (.int i)) := fun _ _ _ H _ I h => wpAny_Constant_int ⟨.int i, H, I.tok _, ⟨_, rfl⟩, h⟩
/-- a global name of the def -/
def Gl (X : Cx) (x : Str) : Prop := X.env.kindOf x = some .globalImplicit
theorem ld_glob {E : Value → Shared → Prop} {pins : List (Addr × Obj)} {s : Shared} {σ : St} {H : Hp} {x : Str} {u : Value} {pos : Pos} {Q : Value → Shared → Prop} (I : Inv X pins σ H s) (hg : Gl X x) (hm : X.mg x = some u) (h : Q u s)
    (hd : (x == ("__debug__" : Str)) = false := by decide) : wpAny (model X.prog X.w) X.A (eval (.Name x pos) X.env) Q E s :=
  Calls.Name_function_global I.ok.kind hg (Calls.loadGlobal_global (by rw [I.ok.glob]; exact I.mod.glob.keeps I.bk) hm h) hd
theorem ld_blt {E : Value → Shared → Prop} {pins : List (Addr × Obj)} {s : Shared} {σ : St} {H : Hp} {x : Str} {u : Value} {pos : Pos} {Q : Value → Shared → Prop} (I : Inv X pins σ H s) (hg : Gl X x) (hm : X.mg x = none) (hv : bootBuiltins x = some u) (h : Q u s)
    (hn : x ≠ "__name__" := by decide) (hd : (x == ("__debug__" : Str)) = false := by decide) : wpAny (model X.prog X.w) X.A (eval (.Name x pos) X.env) Q E s := by
  obtain ⟨mb, h1, h2⟩ := I.mod.blt
  exact Calls.Name_function_global I.ok.kind hg (Calls.loadGlobal_builtin (by rw [I.ok.glob]; exact I.mod.glob.keeps I.bk) hm (by rw [I.ok.blt]; exact h1.keeps I.bk) ((h2 x hn).trans hv) h) hd
/-- a module's constant, a class, a function, as a value -/
theorem pe_glob {x : Str} {v : V} {u : Value} {pos : Pos} (hg : Gl X x) (hm : X.mg x = some u) (r : RelV v u) (hd : (x == ("__debug__" : Str)) = false := by decide) : PE X (.Name x pos) (tC v) :=
  fun _ _ _ H _ I h => ld_glob I hg hm ⟨v, H, I, r, h⟩ hd
variable {a b : Expr} {ta tb : TE} {pos : Pos}
/-- a comparison as a value, as a test -/
def tB (t : TE) : TT := fun σ H Q => t σ H fun x H1 => ∃ c, x = .bl c ∧ Q c H1
/-- an expression whose value is a bool, as a test -/
theorem pt_val {e : Expr} {t : TE} (h : PE X e t) (he : ∀ whole, isTrue e X.env whole = (do let v ← whole; standAt e.pos; holding [v] (truthy v)) := by intro _; rfl) : PT X e (tB t) := by
  intro pins s σ H Q I hw
  refine isTrue_plain (thn (h pins s σ H _ I hw) fun v s1 ⟨x, H1, I1, r1, q1⟩ => ?_) (he _)
  obtain ⟨d, rfl, q⟩ := q1
  cases r1
  exact wpAny_truthy_bool ⟨H1, I1, q⟩
variable {tA tB' : TT} {rest : List Expr}
def tOr (t u : TT) : TT := fun σ H Q => t σ H fun c H1 => if c = true then Q true H1 else u σ H1 Q
def tNot (t : TT) : TT := fun σ H Q => t σ H fun c H1 => Q (!c) H1
theorem pw_or1 (ha : PT X a tA) : PW X (.BoolOp .Or [a] pos) tA := by
  intro wh pins s σ H Q I h
  refine isTrue_or (thn (ha pins s σ H Q I h) fun c s1 e => ?_)
  cases c with
  | false => exact isTrue_or_nil e
  | true => exact e
theorem pw_or (ha : PT X a tA) (hb : PW X (.BoolOp .Or (b :: rest) pos) tB') : PW X (.BoolOp .Or (a :: b :: rest) pos) (tOr tA tB') := by
  intro wh pins s σ H Q I h
  refine isTrue_or (thn (ha pins s σ H _ I h) fun c s1 ⟨H1, I1, q1⟩ => ?_)
  cases c with
  | true => exact ⟨H1, I1, q1⟩
  | false => exact hb wh pins s1 σ H1 Q I1 q1
theorem pt_not (ha : PT X a tA) : PT X (.UnaryOp .Not a pos) (tNot tA) := by
  intro pins s σ H Q I h
  exact isTrue_not (ha pins s σ H (fun c H1 => Q (!c) H1) I h)
end
end L2
namespace L2
open PySem PySem.Spec PyProof.Rows
def SqL (K : PySem.W.Frag) (H : Hp) (a : Addr) (xs : List V) : Prop :=
  Rd H a (.lst xs) ∨
    ∃ (o : Obj) (its : Array Value) (n : Nat), K.lookup a = some o ∧ o.cls = .type "list" ∧ o.dict = none ∧ o.data = .seq its n ∧ its.size ≤ sizeLine ∧ Vals xs its.toList
def SqT (K : PySem.W.Frag) (H : Hp) (a : Addr) (xs : List V) : Prop :=
  Rd H a (.tup xs) ∨
    ∃ (o : Obj) (its : Array Value) (n : Nat), K.lookup a = some o ∧ o.cls = .type "tuple" ∧ o.data = .seq its n ∧ its.size ≤ sizeLine ∧ Vals xs its.toList
def absV : Value → Option V
  | .none => some .non
  | .bool b => some (.bl b)
  | .int i _ => some (.int i)
  | .str x _ => some (.str x)
  | .bytes b _ => some (.byt b)
  | .float b _ => some (.flt b)
  | .ref a => some (.ref a)
  | .type n => some (.ty n)
  | _ => none
theorem RelV.abs {x : V} {u : Value} (r : RelV x u) : absV u = some x := by
  cases x with
  | non => cases r; rfl
  | bl _ => cases r; rfl
  | int _ => obtain ⟨t, rfl⟩ := r; rfl
  | str _ => obtain ⟨t, rfl⟩ := r; rfl
  | byt _ => obtain ⟨t, rfl⟩ := r; rfl
  | flt _ => obtain ⟨t, rfl⟩ := r; rfl
  | ref _ => cases r; rfl
  | ty _ => cases r; rfl
theorem RelV.inj {x y : V} {u : Value} (r : RelV x u) (q : RelV y u) : x = y := Option.some.inj (r.abs.symm.trans q.abs)
theorem Vals.inj : ∀ {xs ys : List V} {us : List Value}, Vals xs us → Vals ys us → xs = ys
  | _, _, _, .nil, .nil => rfl
  | _, _, _, .cons r t, .cons r' t' => by rw [r.inj r', Vals.inj t t']
section
variable {X : Cx} {pins : List (Addr × Obj)} {σ : St} {H : Hp} {s : Shared} {a : Addr} {xs ys : List V}
theorem SqL.of {K : PySem.W.Frag} (h : H a = some (.lst xs)) : SqL K H a xs := .inl (.inl h)
theorem SqT.of {K : PySem.W.Frag} (h : H a = some (.tup xs)) : SqT K H a xs := .inl (.inl h)
theorem Inv.list (I : Inv X pins σ H s) (h : SqL X.K H a xs) : ∃ its : List Value, Vals xs its ∧ PlainL s.heap a its.toArray ∧ xs.length ≤ sizeLine := by
  rcases h with h | ⟨o, its, n, hk, hc, hd, hs, hz, r⟩
  · obtain ⟨z, its, n, r, e⟩ := h.ok I.hok
    exact ⟨its, r, ⟨_, n, e, rfl, rfl, rfl⟩, z⟩
  · refine ⟨its.toList, r, ⟨o, n, I.kIn a o hk, hc, hd, by simpa using hs⟩, ?_⟩
    have e := r.length
    simp only [Array.length_toList] at e
    omega
theorem Inv.tuple (I : Inv X pins σ H s) (h : SqT X.K H a xs) : ∃ its : List Value, Vals xs its ∧ IsTup s.heap a its.toArray ∧ xs.length ≤ sizeLine := by
  rcases h with h | ⟨o, its, n, hk, hc, hs, hz, r⟩
  · obtain ⟨z, its, r, p⟩ := h.ok I.hok
    exact ⟨its, r, p, z⟩
  · refine ⟨its.toList, r, ⟨o, I.kIn a o hk, hc, n, by simpa using hs⟩, ?_⟩
    have e := r.length
    simp only [Array.length_toList] at e
    omega
theorem Inv.list_inj (I : Inv X pins σ H s) (h : SqL X.K H a xs) (h' : SqL X.K H a ys) : xs = ys := by
  obtain ⟨its, r, ⟨o, n, e, _, _, d⟩, _⟩ := I.list h
  obtain ⟨its', r', ⟨o', n', e', _, _, d'⟩, _⟩ := I.list h'
  rw [e] at e'; cases e'
  rw [d] at d'
  injection d' with d1 _
  have : its = its' := by simpa using congrArg Array.toList d1
  subst this
  exact r.inj r'
theorem Inv.tuple_inj (I : Inv X pins σ H s) (h : SqT X.K H a xs) (h' : SqT X.K H a ys) : xs = ys := by
  obtain ⟨its, r, ⟨o, e, _, n, d⟩, _⟩ := I.tuple h
  obtain ⟨its', r', ⟨o', e', _, n', d'⟩, _⟩ := I.tuple h'
  rw [e] at e'; cases e'
  rw [d] at d'
  injection d' with d1 _
  have : its = its' := by simpa using congrArg Array.toList d1
  subst this
  exact r.inj r'
end
abbrev Cx.wish (X : Cx) (E : Value → Shared → Prop) : Cx := { X with xe := E }
/-- no exception leaves -/
abbrev Cx.nox (X : Cx) : Cx := X.wish fun _ _ => False
theorem Cx.Ok.wish {X : Cx} (ok : X.Ok) (E : Value → Shared → Prop) : (X.wish E).Ok :=
  ⟨ok.mod, ok.kind, ok.glob, ok.blt, ok.above, ok.inj, ok.has, ok.cab, ok.hd, ok.frames, ok.stk, ok.exf, ok.bs, ok.bsz, ok.noex, ok.exfs, ok.funs, ok.frf⟩
theorem Cx.Ok.unwish {X : Cx} {E : Value → Shared → Prop} (ok : (X.wish E).Ok) : X.Ok :=
  ⟨ok.mod, ok.kind, ok.glob, ok.blt, ok.above, ok.inj, ok.has, ok.cab, ok.hd, ok.frames, ok.stk, ok.exf, ok.bs, ok.bsz, ok.noex, ok.exfs, ok.funs, ok.frf⟩
section
variable {X : Cx} {pins : List (Addr × Obj)} {σ : St} {H : Hp} {s : Shared} {E : Value → Shared → Prop}
theorem Inv.wish (I : Inv X pins σ H s) (E : Value → Shared → Prop) : Inv (X.wish E) pins σ H s := ⟨I.ok.wish E, I.os, I.bare, I.base, I.loc, I.cell, I.free, I.freeC, I.pin, I.hok, I.len⟩
theorem Inv.unwish (I : Inv (X.wish E) pins σ H s) : Inv X pins σ H s := ⟨I.ok.unwish, I.os, I.bare, I.base, I.loc, I.cell, I.free, I.freeC, I.pin, I.hok, I.len⟩
theorem SP.unwish {D : Ends} {f : Flow} {s' : Shared} (h : SP (X.wish E) pins D f s') : SP X pins D f s' := by
  cases f with
  | next => obtain ⟨σ', H', I, q⟩ := h; exact ⟨σ', H', I.unwish, q⟩
  | brk => obtain ⟨σ', H', I, q⟩ := h; exact ⟨σ', H', I.unwish, q⟩
  | cont => obtain ⟨σ', H', I, q⟩ := h; exact ⟨σ', H', I.unwish, q⟩
  | ret u => obtain ⟨v, σ', H', I, r, q⟩ := h; exact ⟨v, σ', H', I.unwish, r, q⟩
theorem PE.nox {e : Expr} {t : TE} (h : PE X.nox e t) : PE X e t := fun pins s σ H Q I hw =>
  wpAny_mono (h pins s σ H Q (I.wish _) hw) (fun _ _ ⟨v, H', I', r, q⟩ => ⟨v, H', I'.unwish, r, q⟩) fun _ _ z => False.elim z
theorem PT.nox {e : Expr} {t : TT} (h : PT X.nox e t) : PT X e t := fun pins s σ H Q I hw =>
  wpAny_mono (h pins s σ H Q (I.wish _) hw) (fun _ _ ⟨H', I', q⟩ => ⟨H', I'.unwish, q⟩) fun _ _ z => False.elim z
theorem PSs.nox {st : List Stmt} {t : TS} (h : PSs X.nox st t) : PSs X st t := fun pins s σ H D I hw =>
  wpAny_mono (h pins s σ H D (I.wish _) hw) (fun _ _ q => q.unwish) fun _ _ z => False.elim z
end
section
variable {X : Cx} {st : Stmt} {rest : List Stmt} {t u : TS} {e : Expr} {te : TE} {pos : Pos}
def tNext : TS := fun D σ H => D.nx σ H
def tSeq (t u : TS) : TS := fun D σ H => t { D with nx := u D } σ H
theorem pss_nil : PSs X [] tNext := fun _ _ σ H _ I h => wpAny_execs_nil ⟨σ, H, I, h⟩
theorem pss_cons (h1 : PS X st t) (h2 : PSs X rest u) : PSs X (st :: rest) (tSeq t u) := by
  intro pins s σ H D I h
  refine wpAny_execs_cons (thn (h1 pins s σ H { D with nx := u D } I h) fun f s1 q => ?_)
  cases f with
  | next =>
    obtain ⟨σ', H', I', q⟩ := q
    exact h2 pins s1 σ' H' D I' q
  | ret v => exact q
  | brk => exact q
  | cont => exact q
theorem pss_one (h1 : PS X st t) : PSs X [st] t := by
  intro pins s σ H D I h
  refine wpAny_execs_cons (thn (h1 pins s σ H D I h) fun f s1 q => ?_)
  cases f with
  | next => exact wpAny_execs_nil q
  | ret v => exact q
  | brk => exact q
  | cont => exact q
/-- in a def's body nothing is shown -/
theorem Inv.quiet {pins : List (Addr × Obj)} {σ : St} {H : Hp} {s : Shared} (I : Inv X pins σ H s) : interactive X.env = false := by simp [interactive, I.ok.kind]
/-- an expression whose value is dropped -/
def tDrop (te : TE) : TS := fun D σ H => te σ H fun _ H1 => D.nx σ H1
theorem ps_expr (he : PE X e te) (hs : swapsWith e none pos.line X.env = pure false := by rfl) : PS X (.Expr e pos) (tDrop te) := by
  intro pins s σ H D I h
  exact wpAny_Expr_any (thn (he pins s σ H _ I h) fun v s1 ⟨x, H1, I1, r1, q1⟩ => ⟨σ, H1, I1, q1⟩) I.quiet hs
def tRet (te : TE) : TS := fun D σ H => te σ H D.rt
theorem ps_ret (he : PE X e te) : PS X (.Return (some e) pos) (tRet te) := by
  intro pins s σ H D I h
  exact wpAny_Return_some (thn (he pins s σ H _ I h) fun v s1 ⟨x, H1, I1, r1, q1⟩ => ⟨x, σ, H1, I1, r1, q1⟩)
def tIfS (c : TT) (t u : TS) : TS := fun D σ H => c σ H fun b H1 => if b = true then t D σ H1 else u D σ H1
theorem ps_if {c : Expr} {a b : List Stmt} {tc : TT} (hc : PT X c tc) (ha : PSs X a t) (hb : PSs X b u) : PS X (.If c a b pos) (tIfS tc t u) := by
  intro pins s σ H D I h
  refine wpAny_If (thn (hc pins s σ H _ I h) fun d s1 ⟨H1, I1, q1⟩ => ?_)
  cases d with
  | true => exact ha pins s1 σ H1 D I1 q1
  | false => exact hb pins s1 σ H1 D I1 q1
/-- code that the proof never comes to -/
def tNever : TS := fun _ _ _ => False
theorem ps_never : PS X st tNever := fun _ _ _ _ _ _ h => h.elim
end
abbrev TG := V → St → Hp → (St → Hp → Prop) → Prop
abbrev TGs := List V → St → Hp → (St → Hp → Prop) → Prop
def PG (X : Cx) (target : Expr) (t : TG) : Prop :=
  ∀ (pins : List (Addr × Obj)) (s : Shared) (σ : St) (H : Hp) (v : V) (u : Value) (Q : St → Hp → Prop), Inv X pins σ H s → RelV v u → t v σ H Q →
    wpAny (model X.prog X.w) X.A (assign target X.env u) (fun _ s' => ∃ σ' H', Inv X pins σ' H' s' ∧ Q σ' H') X.xe s
/-- several targets, one after another -/
def PGs (X : Cx) (ts : List Expr) (t : TGs) : Prop :=
  ∀ (pins : List (Addr × Obj)) (s : Shared) (σ : St) (H : Hp) (vs : List V) (us : List Value) (Q : St → Hp → Prop), Inv X pins σ H s → Vals vs us → t vs σ H Q →
    wpAny (model X.prog X.w) X.A (assignInOrder ((assignEach ts X.env).map (·.2)) us) (fun _ s' => ∃ σ' H', Inv X pins σ' H' s' ∧ Q σ' H') X.xe s
/-- o[i] = v, by values -/
abbrev TSet := V → V → V → Hp → (Hp → Prop) → Prop
def PSet (X : Cx) (t : TSet) : Prop :=
  ∀ (pins : List (Addr × Obj)) (s : Shared) (σ : St) (H : Hp) (o i v : V) (ov iv u : Value) (Q : Hp → Prop), Inv X pins σ H s → RelV o ov → RelV i iv → RelV v u → t o i v H Q →
    wpAny (model X.prog X.w) X.A (setItem ov iv u) (fun _ s' => ∃ H', Inv X pins σ H' s' ∧ Q H') X.xe s
section
variable {X : Cx} {pos : Pos}
def gName (i : Nat) : TG := fun v σ H Q => Q (σ.set i (some v)) H
theorem pg_name {i : Nat} {x : Str} (hN : X.N.Nodup) (hi : X.N[i]? = some x) (hx : Loc X.env.scope x) (hf : X.fn x = true ∨ X.env.scope.names.lookup x = some .local := by first | exact .inl rfl | exact .inr rfl | assumption) : PG X (.Name x pos) (gName i) := by
  intro pins s σ H v u Q I r h
  exact wpAny_assign_Name (store_ok I hN hi hx r (fun s' I' => ⟨_, H, I', h⟩) hf)
def gNil : TGs := fun vs σ H Q => vs = [] ∧ Q σ H
def gCons (t : TG) (u : TGs) : TGs := fun vs σ H Q => ∃ v r, vs = v :: r ∧ t v σ H fun σ' H' => u r σ' H' Q
theorem pgs_nil : PGs X [] gNil := by
  intro pins s σ H vs us Q I r h
  obtain ⟨e, h⟩ := h
  subst e
  cases r
  exact assignInOrder_nil ⟨σ, H, I, h⟩
theorem pgs_cons {e : Expr} {es : List Expr} {t : TG} {u : TGs} (h1 : PG X e t) (h2 : PGs X es u)
    (hs : (assignEach (e :: es) X.env).map (·.2) = assign e X.env :: (assignEach es X.env).map (·.2) := by rfl) : PGs X (e :: es) (gCons t u) := by
  intro pins s σ H vs us Q I r h
  obtain ⟨v, vr, e1, h⟩ := h
  subst e1
  cases r with
  | cons r rr =>
    rw [hs]
    refine assignInOrder_cons (thn (h1 pins s σ H _ _ _ I r h) fun _ s1 ⟨σ1, H1, I1, q1⟩ => ?_)
    exact h2 pins s1 σ1 H1 _ _ Q I1 rr q1
/-- (a, b, ..) = a tuple of that length -/
def gTup (K : PySem.W.Frag) (n : Nat) (t : TGs) : TG := fun v σ H Q => ∃ a xs, v = .ref a ∧ SqT K H a xs ∧ xs.length = n ∧ t xs σ H Q
theorem pg_tup {es : List Expr} {k : Nat} {t : TGs} {n : Nat} (hc : X.calm = true) (h : PGs X es t)
    (hn : (assignEach es X.env).length = n := by rfl) (hst : (assignEach es X.env).findIdx? (·.1) = none := by rfl) : PG X (.Tuple es k pos) (gTup X.K n t) := by
  intro pins s σ H v u Q I r hw
  obtain ⟨a, xs, e1, hq, hl, hw⟩ := hw
  subst e1
  cases r
  obtain ⟨its, rv, ht, hz⟩ := I.tuple hq
  refine assign_Tuple_tuple (I.ok.hd hc) ht (by simp [hn, ← hl, rv.length]) hst fun h' hx => ?_
  have I1 : Inv X pins σ H { s with heap := h' } := I.kept (t' := s.toks) fun b o e => hx b o (Nat.ne_of_lt (Heap.lt_size e)) e
  exact h pins _ σ H xs _ Q I1 (by simpa using rv) hw
/-- o[i] = .. -/
def gSub (to ti : TE) (t : TSet) : TG := fun v σ H Q => to σ H fun o H1 => ti σ H1 fun i H2 => t o i v H2 fun H3 => Q σ H3
theorem pg_sub {o i : Expr} {to ti : TE} {t : TSet} (ho : PE X o to) (hi : PE X i ti) (hs : PSet X t)
    (ha : ∀ v, assign (.Subscript o i pos) X.env v = (do
      let ov ← holding [v] (eval o X.env)
      let iv ← holding [v, ov] (eval i X.env)
      standAt pos
      holding [v, ov, iv] (setItem ov iv v)
      release [v, ov, iv] []) := by intro _; rfl) : PG X (.Subscript o i pos) (gSub to ti t) := by
  intro pins s σ H v u Q I r h
  rw [ha]
  refine wpAny_bind (wpAny_holding (thn (ho pins s σ H _ I h) fun ov s1 ⟨x, H1, I1, r1, q1⟩ => ?_))
  refine wpAny_bind (wpAny_holding (thn (hi pins s1 σ H1 _ I1 q1) fun iv s2 ⟨y, H2, I2, r2, q2⟩ => ?_))
  refine wpAny_bind (wpAny_standAt (wpAny_bind (wpAny_holding (thn (hs pins s2 σ H2 x y v ov iv u _ I2 r1 r2 r q2) fun _ s3 ⟨H3, I3, q3⟩ => ?_))))
  exact wpAny_release ⟨σ, H3, I3, q3⟩
/-- target = value -/
def tAsg (te : TE) (g : TG) : TS := fun D σ H => te σ H fun x H1 => g x σ H1 D.nx
theorem ps_asg {tg e : Expr} {te : TE} {g : TG} (he : PE X e te) (hg : PG X tg g) (hs : swapsWithSole [tg] e pos.line X.env = pure false := by rfl) (hw : swappedStores [tg] e X.env = pure none := by rfl)
    (h1 : (assignEach [tg] X.env).map (·.2) = [assign tg X.env] := by rfl) : PS X (.Assign [tg] e pos) (tAsg te g) := by
  intro pins s σ H D I h
  refine wpAny_Assign_stores (thn (he pins s σ H _ I h) fun v s1 ⟨x, H1, I1, r1, q1⟩ => ?_) hs hw
  rw [h1]
  exact thn (hg pins s1 σ H1 x v _ I1 r1 q1) fun _ s2 q => q
/-- name = value -/
theorem ps_set {i : Nat} {x : Str} {e : Expr} {te : TE} {pos' : Pos} (hN : X.N.Nodup) (hi : X.N[i]? = some x) (hx : Loc X.env.scope x) (he : PE X e te) (hs : swapsWith e (some (.Name x pos')) pos.line X.env = pure false := by rfl) (hf : X.fn x = true ∨ X.env.scope.names.lookup x = some .local := by first | exact .inl rfl | exact .inr rfl | assumption) :
    PS X (.Assign [.Name x pos'] e pos) (tAsg te (gName i)) := by
  intro pins s σ H D I h
  refine wpAny_Assign_Name (thn (he pins s σ H _ I h) fun v s1 ⟨y, H1, I1, r1, q1⟩ => ?_) hs
  exact store_ok I1 hN hi hx r1 (fun s2 I2 => ⟨_, H1, I2, q1⟩) hf
end
section
variable {X : Cx} {pos : Pos}
/-- the invariant W with its measure -/
def tWhile (c : TT) (tb : TS) : TS := fun D σ H => ∃ W : Nat → St → Hp → Prop, (∃ m, W m σ H) ∧ ∀ m σ H, W m σ H →
  c σ H fun b H1 => if b = true then ∃ N : St → Hp → Prop, (∀ σ' H', N σ' H' → ∃ m', m' < m ∧ W m' σ' H') ∧ tb { D with nx := N, ct := N, bk := D.nx } σ H1 else D.nx σ H1
theorem ps_while {c : Expr} {body : List Stmt} {tc : TT} {tb : TS} (hp : PassesOwn (model X.prog X.w) X.A X.env X.xe) (hc : PT X c tc) (hb : PSs X body tb) : PS X (.While c body [] pos) (tWhile tc tb) := by
  intro pins s σ H D I h
  obtain ⟨W, ⟨m0, w0⟩, turn⟩ := h
  refine wpAny_While (codeAny_whileLoop (fun n s' => ∃ σ' H', Inv X pins σ' H' s' ∧ W n σ' H') ?_ m0 ⟨σ, H, I, w0⟩)
  rintro n s1 ⟨σ1, H1, I1, w1⟩
  refine wpAny_passesOwn hp (thn (hc pins s1 σ1 H1 _ I1 (turn n σ1 H1 w1)) fun b s2 ⟨H2, I2, q2⟩ => ?_)
  cases b with
  | true =>
    obtain ⟨N, hN, q2⟩ := q2
    rw [if_pos rfl]
    refine wpAny_passesOwn hp (thn (hb pins s2 σ1 H2 _ I2 q2) fun f s3 q3 => ?_)
    cases f with
    | next =>
      obtain ⟨σ3, H3, I3, n3⟩ := q3
      obtain ⟨m', hm, w3⟩ := hN σ3 H3 n3
      exact ⟨m', hm, σ3, H3, I3, w3⟩
    | cont =>
      obtain ⟨σ3, H3, I3, n3⟩ := q3
      obtain ⟨m', hm, w3⟩ := hN σ3 H3 n3
      exact ⟨m', hm, σ3, H3, I3, w3⟩
    | brk => exact q3
    | ret v => exact q3
  | false =>
    rw [if_neg Bool.false_ne_true]
    exact wpAny_execs_nil ⟨σ1, H2, I2, q2⟩
end
/-- at turn i: it yields x (the heap may grow), or it stops -/
structure It where
  go : Nat → Hp → Prop
  yld : Nat → Hp → V → Hp → Prop
  stop : Nat → Hp → Prop
/-- the iterator's own objects may turn: they are not the frame's, not pinned, younger than the entry (or a comprehension's own) -/
def FpOk (X : Cx) (pins : List (Addr × Obj)) (H : Hp) (b : Addr) : Prop :=
  H b = none ∧ b ≠ X.env.locals ∧ b ∉ X.fs ∧ (b ∈ X.ex ∨ X.s_0.heap.objs.size ≤ b) ∧ (∀ x c, X.env.cells.lookup x = some c → c ≠ b) ∧ ∀ p ∈ X.pn ++ pins, p.1 ≠ b
theorem Inv.fpOk {X : Cx} {pins : List (Addr × Obj)} {σ : St} {H H' : Hp} {s : Shared} {b : Addr} (I : Inv X pins σ H s) (hb : s.heap.objs.size ≤ b) (hn : H' b = none) : FpOk X pins H' b := by
  refine ⟨hn, Nat.ne_of_gt (Nat.lt_of_lt_of_le I.lt hb), I.nofs hb, .inr (Nat.le_trans I.sz hb), fun x c e z => ?_, fun p hp z => ?_⟩
  · obtain ⟨v, q⟩ := I.cell x c e
    exact absurd (Nat.lt_of_lt_of_le q.lt (by rw [z]; exact hb)) (Nat.lt_irrefl _)
  · exact absurd (Nat.lt_of_lt_of_le (Heap.lt_size (I.pin p hp).1) (by rw [z]; exact hb)) (Nat.lt_irrefl _)
structure Turn (P : Program) (w : World) (K : PySem.W.Frag) (tg : Expr) (J : It) (fp : List Addr) (it : Addr) (tn : Nat → Heap → Prop) : Prop where
  mem : it ∈ fp
  obj : ∀ i h, tn i h → ∀ b ∈ fp, ∃ o, h.get? b = some o ∧ ∀ v, o.data ≠ .cell v
  keep : ∀ i h h', tn i h → (∀ b ∈ fp, ∀ o, h.get? b = some o → h'.get? b = some o) → tn i h'
  item : ∀ (X : Cx), X.prog = P → X.w = w → X.K = K → X.calm = true → ∀ (i : Nat) (pins : List (Addr × Obj)) (s : Shared) (σ : St) (H : Hp) (E : Value → Shared → Prop), Inv X pins σ H s → (∀ b ∈ fp, FpOk X pins H b) → tn i s.heap → J.go i H →
    wpAny (model P w) X.A (pyNext (.ref it)) (fun r s1 => ∃ u, r = some u ∧
      wpAny (model P w) X.A (letOwnedTupleGo tg (.ref it) u) (fun _ s2 => ∃ x H', Inv X pins σ H' s2 ∧ RelV x u ∧ J.yld i H x H' ∧ tn (i + 1) s2.heap ∧ ∀ b ∈ fp, H' b = none) E s1) E s
  done : ∀ (X : Cx), X.prog = P → X.w = w → X.K = K → X.calm = true → ∀ (i : Nat) (pins : List (Addr × Obj)) (s : Shared) (σ : St) (H : Hp) (E : Value → Shared → Prop), Inv X pins σ H s → (∀ b ∈ fp, FpOk X pins H b) → tn i s.heap → J.stop i H →
    wpAny (model P w) X.A (pyNext (.ref it)) (fun r s1 => r = none ∧ Inv X pins σ H s1) E s
  self : ∀ (A : Around) (i : Nat) (s : Shared) (Q : Value → Shared → Prop) (E : Value → Shared → Prop), tn i s.heap → Q (.ref it) s → wpAny (model P w) A (pyIter (.ref it)) Q E s
abbrev TI := St → Hp → (It → Hp → Prop) → Prop
/-- an iterator has come -/
def PIE (X : Cx) (pins : List (Addr × Obj)) (σ : St) (tg : Expr) (R : It → Hp → Prop) (itv : Value) (s2 : Shared) : Prop :=
  ∃ (it : Addr) (fp : List Addr) (tn : Nat → Heap → Prop) (J : It) (H' : Hp), itv = .ref it ∧ Inv X pins σ H' s2 ∧ Turn X.prog X.w X.K tg J fp it tn ∧ tn 0 s2.heap ∧ (∀ b ∈ fp, FpOk X pins H' b) ∧ R J H'
def PI (X : Cx) (tg iter : Expr) (wi : TI) : Prop :=
  ∀ (pins : List (Addr × Obj)) (s : Shared) (σ : St) (H : Hp) (R : It → Hp → Prop), Inv X pins σ H s → wi σ H R →
    wpAny (model X.prog X.w) X.A (eval iter X.env) (fun v s1 => wpAny (model X.prog X.w) X.A (pyIter v) (PIE X pins σ tg R) X.xe s1) X.xe s
/-- the step ahead of the store is nothing for an iterator that keeps no tuple -/
theorem go_of {M : Model} {A : Around} {E : Value → Shared → Prop} {s : Shared} {tg : Expr} {it : Addr} {u : Value} {o : Obj} {n : String} {vs : Array Value} {Q : Unit → Shared → Prop} (ho : s.heap.get? it = some o) (hc : o.cls = .type n) (hd : o.data = .fields vs)
    (hn : ["enumerate", "zip", "dict_itemiterator", "dict_reverseitemiterator", "odict_iterator", "itertools.zip_longest", "itertools.pairwise"].contains n = false) (hQ : Q () s) : wpAny M A (letOwnedTupleGo tg (.ref it) u) Q E s := by
  unfold letOwnedTupleGo
  cases tg <;> first
    | exact wpAny_pure hQ
    | (cases u <;> first
        | exact wpAny_pure hQ
        | (refine wpAny_bind (wpAny_load ho ?_)
           rw [hc, hd]
           show wpAny M A (if (["enumerate", "zip", "dict_itemiterator", "dict_reverseitemiterator", "odict_iterator", "itertools.zip_longest", "itertools.pairwise"].contains n && vs[0]? == some (rawInt _)) = true then _ else _) Q E s
           rw [if_neg (by intro h; rw [hn, Bool.false_and] at h; cases h)]
           exact wpAny_pure hQ))
/-- the list at a, as it stands at each turn (a loop may append to it) -/
def Itl (K : PySem.W.Frag) (a : Addr) : It :=
  ⟨fun i H => ∃ xs x, SqL K H a xs ∧ xs[i]? = some x, fun i H x H' => H' = H ∧ ∀ xs, SqL K H a xs → xs[i]? = some x, fun i H => ∃ xs, SqL K H a xs ∧ xs.length ≤ i⟩
/-- lo, lo + 1, .. (n of them) -/
def Itr (lo : Int) (n : Nat) : It := ⟨fun i _ => i < n, fun i H x H' => H' = H ∧ x = .int (lo + i), fun i _ => n ≤ i⟩
theorem turn_list {P : Program} {w : World} {K : PySem.W.Frag} {tg : Expr} (a it : Addr) : Turn P w K tg (Itl K a) [it] it (fun i h => h.IsListIter it a i) where
  mem := by simp
  obj := fun i h st b hb => by
    have e : b = it := by simpa using hb
    subst e
    obtain ⟨o, e, c, d⟩ := st
    exact ⟨o, e, fun v z => by rw [d] at z; cases z⟩
  keep := fun i h h' st k => st.at fun o e => k it (by simp) o e
  item := by
    intro X hP hw hK hc i pins s σ H E I hf st hg
    subst hP hw hK
    obtain ⟨xs, x, hq, hx⟩ := hg
    obtain ⟨its, rv, p, hz⟩ := I.list hq
    obtain ⟨u, hu, ru⟩ := rv.get hx
    obtain ⟨f0, f1, f2, f3, f4, f5⟩ := hf it (by simp)
    refine wpAny_pyNext_list_item st p.isList (x := u) (by simpa using hu) fun h' st' sb => ?_
    have I1 : Inv X pins σ H { s with heap := h' } := I.turned (t' := s.toks) (fun b o hb e => (sb.2 b hb).trans e) f0 f1 f3 f4 f5
    obtain ⟨o, e, c, d⟩ := id st'
    exact ⟨u, rfl, go_of (s := { s with heap := h' }) e c d (by decide) ⟨x, H, I1, ru, ⟨rfl, fun ys hy => by rw [I.list_inj hy hq]; exact hx⟩, st', fun b hb => (hf b hb).1⟩⟩
  done := by
    intro X hP hw hK hc i pins s σ H E I hf st hg
    subst hP hw hK
    obtain ⟨xs, hq, hx⟩ := hg
    obtain ⟨its, rv, p, hz⟩ := I.list hq
    obtain ⟨f0, f1, f2, f3, f4, f5⟩ := hf it (by simp)
    have hl := rv.length
    exact wpAny_pyNext_list_end (I.ok.hd hc) st p.isList (by simp; omega) fun h' eb => ⟨rfl, I.turned (t' := s.toks) (fun b o hb e => eb b o hb e) f0 f1 f3 f4 f5⟩
  self := fun _ _ _ _ _ st h => wpAny_pyIter_listiter st h
theorem turn_range {P : Program} {w : World} {K : PySem.W.Frag} {tg : Expr} (it : Addr) (lo : Int) (n : Nat) : Turn P w K tg (Itr lo n) [it] it (fun i h => IsRangeIter h it (lo + (i : Nat) * 1) ((n : Int) - (i : Nat)) 1) where
  mem := by simp
  obj := fun i h st b hb => by
    have e : b = it := by simpa using hb
    subst e
    exact ⟨_, st, fun v z => by
      have z' : Data.fields _ = Data.cell v := z
      cases z'⟩
  keep := fun i h h' st k => k it (by simp) _ st
  item := by
    intro X hP hw hK hc i pins s σ H E I hf st hg
    subst hP hw hK
    obtain ⟨f0, f1, f2, f3, f4, f5⟩ := hf it (by simp)
    have W := Walks.range (prog := X.prog) (w := X.w) (I.ok.hd hc) it lo 1 n
    refine W.item i s _ _ hg st fun v h' tk hv st' kk => ?_
    obtain ⟨t, rfl⟩ := hv
    have I1 : Inv X pins σ H { s with heap := h', toks := tk } := I.turned (fun b o hb e => kk b o (by simpa using hb) e) f0 f1 f3 f4 f5
    refine ⟨_, rfl, go_of (s := { s with heap := h', toks := tk }) (n := "range_iterator") st' rfl rfl (by decide) ⟨.int (lo + i), H, I1, ⟨t, ?_⟩, ⟨rfl, rfl⟩, st', fun b hb => (hf b hb).1⟩⟩
    rw [Int.mul_one]
  done := by
    intro X hP hw hK hc i pins s σ H E I hf st hg
    subst hP hw hK
    obtain ⟨f0, f1, f2, f3, f4, f5⟩ := hf it (by simp)
    exact wpAny_pyNext_range_end (I.ok.hd hc) st (by have : n ≤ i := hg; omega) fun h' eb => ⟨rfl, I.turned (t' := s.toks) (fun b o hb e => eb b o hb e) f0 f1 f3 f4 f5⟩
  self := fun _ _ _ _ _ st h => wpAny_pyIter_rangeiter st h
end L2
namespace L2
open PySem PySem.Spec PyProof.Rows
section
variable {X : Cx} {tg : Expr}
def iList (K : PySem.W.Frag) (tl : TE) : TI := fun σ H R => tl σ H fun x H1 => ∃ a, x = .ref a ∧ (∃ xs, SqL K H1 a xs) ∧ R (Itl K a) H1
theorem pi_list {l : Expr} {tl : TE} (hl : PE X l tl) : PI X tg l (iList X.K tl) := by
  intro pins s σ H R I h
  refine thn (hl pins s σ H _ I h) fun v s1 ⟨x, H1, I1, r1, q1⟩ => ?_
  obtain ⟨a, e, ⟨xs, hq⟩, q⟩ := q1
  subst e
  cases r1
  obtain ⟨its, rv, p, hz⟩ := I1.list hq
  refine wpAny_pyIter_list p.isList ?_
  refine ⟨s1.heap.objs.size, [s1.heap.objs.size], _, _, H1, rfl, I1.kept (t' := s1.toks) fun b o e => Heap.get?_push_of_some _ e, turn_list a _, ⟨_, Heap.get?_push_size _ rfl, rfl, rfl⟩, fun b hb => ?_, q⟩
  have e : b = s1.heap.objs.size := by simpa using hb
  subst e
  exact I1.fpOk (Nat.le_refl _) (I1.hok.fresh (Nat.le_refl _))
/-- a range object just made, walked -/
theorem range_it {pins : List (Addr × Obj)} {σ : St} {H : Hp} {s : Shared} {R : It → Hp → Prop} {E : Value → Shared → Prop} {lo hi : Int} {t u v : Tok} {tk : Nat} (I : Inv X pins σ H s) (h1 : -(2 ^ 62) ≤ lo) (h2 : lo < 2 ^ 62) (h3 : -(2 ^ 62) ≤ hi) (h4 : hi < 2 ^ 62)
    (q : R (Itr lo (hi - lo).toNat) H) : wpAny (model X.prog X.w) X.A (pyIter (.ref s.heap.objs.size)) (PIE X pins σ tg R) E { s with heap := s.heap.push { cls := .type "range", data := .fields #[.int lo t, .int hi u, .int 1 v] }, toks := tk } := by
  refine wpAny_pyIter_range (IsRange.new ..) (small_one h1 h2 h3 h4) ?_
  have I1 : Inv X pins σ H { s with heap := s.heap.push { cls := .type "range", data := .fields #[.int lo t, .int hi u, .int 1 v] }, toks := tk } := I.kept fun b o e => Heap.get?_push_of_some _ e
  refine ⟨(s.heap.push { cls := .type "range", data := .fields #[.int lo t, .int hi u, .int 1 v] }).objs.size, [(s.heap.push { cls := .type "range", data := .fields #[.int lo t, .int hi u, .int 1 v] }).objs.size], _, _, H, rfl,
    I1.kept (t' := tk) fun b o e => Heap.get?_push_of_some _ e, turn_range _ lo (hi - lo).toNat, ?_, fun b hb => ?_, q⟩
  · have e1 : lo + ((0 : Nat) : Int) * 1 = lo := by simp
    have e2 : (((hi - lo).toNat : Nat) : Int) - ((0 : Nat) : Int) = Builtin.Range.rangeSize lo hi 1 := by rw [rangeSize_one]; split <;> omega
    show IsRangeIter _ _ (lo + ((0 : Nat) : Int) * 1) ((((hi - lo).toNat : Nat) : Int) - ((0 : Nat) : Int)) 1
    rw [e1, e2]
    exact Heap.get?_push_size _ rfl
  · have e : b = (s.heap.push { cls := .type "range", data := .fields #[.int lo t, .int hi u, .int 1 v] }).objs.size := by simpa using hb
    subst e
    exact I1.fpOk (Nat.le_refl _) (I1.hok.fresh (Nat.le_refl _))
def iRng1 (ta : TA) : TI := fun σ H R => ta σ H fun vs H1 => ∃ j : Int, vs = [.int j] ∧ -(2 ^ 62) ≤ j ∧ j < 2 ^ 62 ∧ R (Itr 0 j.toNat) H1
def iRng2 (ta : TA) : TI := fun σ H R => ta σ H fun vs H1 => ∃ i j : Int, vs = [.int i, .int j] ∧ (-(2 ^ 62) ≤ i ∧ i < 2 ^ 62 ∧ -(2 ^ 62) ≤ j ∧ j < 2 ^ 62) ∧ R (Itr i (j - i).toNat) H1
theorem pi_range1 {a : Expr} {ta : TA} {p pos : Pos} (hg : Gl X "range") (hm : X.mg "range" = none) (ha : PA X [a] ta) (hs : starEach [a] X.env = [(false, eval a X.env)] := by rfl) : PI X tg (.Call (.Name "range" p) [a] [] pos) (iRng1 ta) := by
  intro pins s σ H R I h
  refine Call_ (ld_blt I hg hm boot_range (PyProof.Rows.callWith_type1 (thn (ha pos pins s σ H _ I h) fun us s1 ⟨vs, H1, I1, r1, q1⟩ => ?_) hs rfl))
  obtain ⟨j, e, q1, q2, q⟩ := q1
  subst e
  cases r1 with
  | cons r rr =>
    cases rr
    obtain ⟨t, rfl⟩ := r
    exact call_range_1 (range_it I1 (by omega) (by omega) q1 q2 (by simpa using q))
theorem pi_range2 {a b : Expr} {ta : TA} {p pos : Pos} (hg : Gl X "range") (hm : X.mg "range" = none) (ha : PA X [a, b] ta) (hs : starEach [a, b] X.env = [(false, eval a X.env), (false, eval b X.env)] := by rfl) (hs2 : starEach [b] X.env = [(false, eval b X.env)] := by rfl) :
    PI X tg (.Call (.Name "range" p) [a, b] [] pos) (iRng2 ta) := by
  intro pins s σ H R I h
  refine Call_ (ld_blt I hg hm boot_range (PyProof.Rows.callWith_type1 (thn (ha pos pins s σ H _ I h) fun us s1 ⟨vs, H1, I1, r1, q1⟩ => ?_) (by rw [hs, hs2]) (by rw [hs2]; rfl)))
  obtain ⟨i, j, e, ⟨q1, q2, q3, q4⟩, q⟩ := q1
  subst e
  cases r1 with
  | cons r rr =>
    cases rr with
    | cons r' rr =>
      cases rr
      obtain ⟨t, rfl⟩ := r
      obtain ⟨t', rfl⟩ := r'
      exact call_range_2 (range_it I1 q1 q2 q3 q4 q)
/-- W: the invariant by the turn and a measure; N: what the body is to reach -/
def tFor (wi : TI) (g : TG) (tb : TS) : TS := fun D σ H => wi σ H fun J H1 => ∃ W : Nat → Nat → St → Hp → Prop, (∃ m, W 0 m σ H1) ∧ ∀ i m σ H, W i m σ H →
  (J.stop i H ∧ D.nx σ H) ∨ (J.go i H ∧ ∃ N : St → Hp → Prop, (∀ σ' H', N σ' H' → ∃ m', m' < m ∧ W (i + 1) m' σ' H') ∧ ∀ x H', J.yld i H x H' → g x σ H' fun σ2 H2 => tb { D with nx := N, ct := N, bk := D.nx } σ2 H2)
/-- the records at fp as they stand -/
def pinsAt (fp : List Addr) (h : Heap) : List (Addr × Obj) := fp.filterMap fun b => (h.get? b).map fun o => (b, o)
theorem mem_pinsAt {fp : List Addr} {h : Heap} {b : Addr} {o : Obj} (hb : b ∈ fp) (e : h.get? b = some o) : (b, o) ∈ pinsAt fp h := List.mem_filterMap.mpr ⟨b, hb, by rw [e]; rfl⟩
theorem of_pinsAt {fp : List Addr} {h : Heap} {p : Addr × Obj} (hp : p ∈ pinsAt fp h) : p.1 ∈ fp ∧ h.get? p.1 = some p.2 := by
  obtain ⟨b, hb, e⟩ := List.mem_filterMap.mp hp
  cases q : h.get? b with
  | none => rw [q] at e; cases e
  | some o =>
    rw [q] at e
    have e' : (b, o) = p := Option.some.inj e
    subst e'
    exact ⟨hb, q⟩
theorem Inv.pinned {pins : List (Addr × Obj)} {σ : St} {H : Hp} {s : Shared} {fp : List Addr} (I : Inv X pins σ H s) (hf : ∀ b ∈ fp, FpOk X pins H b) (ho : ∀ b ∈ fp, ∃ o, s.heap.get? b = some o ∧ ∀ v, o.data ≠ .cell v) : Inv X (pins ++ pinsAt fp s.heap) σ H s :=
  I.pins_of fun p hp => (List.mem_append.mp hp).elim (fun z => I.pin p (List.mem_append_right _ z)) fun z => by
    obtain ⟨hb, e⟩ := of_pinsAt z
    obtain ⟨f0, f1, f2, _⟩ := hf p.1 hb
    obtain ⟨o, e', d⟩ := ho p.1 hb
    rw [e] at e'; cases e'
    exact ⟨e, f0, f1, f2, d⟩
theorem Inv.unpinned {pins pl : List (Addr × Obj)} {σ : St} {H : Hp} {s : Shared} (I : Inv X (pins ++ pl) σ H s) : Inv X pins σ H s := I.pins_of fun p hp => I.pin p (List.mem_append_right _ (List.mem_append_left _ hp))
theorem ps_for {iter : Expr} {body : List Stmt} {wi : TI} {g : TG} {tb : TS} {pos : Pos} (hp : PassesOwn (model X.prog X.w) X.A X.env X.xe) (hc : X.calm = true) (hi : PI X tg iter wi) (hg : PG X tg g) (hb : PSs X body tb)
    (hs : ∀ x, foldedSetIterable iter X.env x = pure x := by intro _; rfl) : PS X (.For tg iter body [] pos) (tFor wi g tb) := by
  intro pins s σ H D I h
  refine wpAny_For (thn (hi pins s σ H _ I h) fun v s1 h1 => thn h1 fun itv s2 h2 => ?_) hs
  obtain ⟨it, fp, tn, J, H2, e, I2, T, st2, f2, W, ⟨m0, w0⟩, turn⟩ := h2
  subst e
  -- what stays true of the iterator's objects through the loop
  have stat : ∀ {H' : Hp}, (∀ b ∈ fp, H' b = none) → ∀ b ∈ fp, FpOk X pins H' b := fun hn b hb => ⟨hn b hb, (f2 b hb).2⟩
  refine codeAny_forLoop_any (fun n s' => ∃ i σ' H', Inv X pins σ' H' s' ∧ tn i s'.heap ∧ (∀ b ∈ fp, H' b = none) ∧ W i n σ' H') ?_ m0 ⟨0, σ, H2, I2, st2, fun b hb => (f2 b hb).1, w0⟩
  rintro n s3 ⟨i, σ3, H3, I3, st3, fr3, w3⟩
  rcases turn i n σ3 H3 w3 with ⟨stop, qn⟩ | ⟨go, N, hN, step⟩
  · refine wpAny_passesOwn hp (thn (T.done X rfl rfl rfl hc i pins s3 σ3 H3 X.xe I3 (stat fr3) st3 stop) fun r s4 ⟨hr, I4⟩ => ?_)
    subst hr
    exact wpAny_execs_nil ⟨σ3, H3, I4, qn⟩
  · refine wpAny_passesOwn hp (thn (T.item X rfl rfl rfl hc i pins s3 σ3 H3 X.xe I3 (stat fr3) st3 go) fun r s4 ⟨u, hr, h4⟩ => ?_)
    subst hr
    refine wpAny_passesOwn hp (thn h4 fun _ s5 ⟨x, H5, I5, r5, y5, st5, fr5⟩ => ?_)
    have I5' := I5.pinned (stat fr5) (T.obj _ _ st5)
    refine wpAny_passesOwn hp (thn (hg _ s5 σ3 H5 x u _ I5' r5 (step x H5 y5)) fun _ s6 ⟨σ6, H6, I6, q6⟩ => ?_)
    refine wpAny_passesOwn hp (thn (hb _ s6 σ6 H6 _ I6 q6) fun f s7 q7 => ?_)
    have again : ∀ {σ7 : St} {H7 : Hp}, Inv X (pins ++ pinsAt fp s5.heap) σ7 H7 s7 → N σ7 H7 → ∃ m, m < n ∧ ∃ i σ' H', Inv X pins σ' H' s7 ∧ tn i s7.heap ∧ (∀ b ∈ fp, H' b = none) ∧ W i m σ' H' := fun {σ7 H7} I7 n7 => by
      obtain ⟨m', hm, w7⟩ := hN σ7 H7 n7
      refine ⟨m', hm, i + 1, σ7, H7, I7.unpinned, T.keep _ _ _ st5 fun b hb o e => (I7.pin (b, o) (List.mem_append_right _ (List.mem_append_right _ (mem_pinsAt hb e)))).1, fun b hb => ?_, w7⟩
      obtain ⟨o, e, d⟩ := T.obj _ _ st5 b hb
      exact (I7.pin (b, o) (List.mem_append_right _ (List.mem_append_right _ (mem_pinsAt hb e)))).2.1
    cases f with
    | next => obtain ⟨σ7, H7, I7, n7⟩ := q7; exact again I7 n7
    | cont => obtain ⟨σ7, H7, I7, n7⟩ := q7; exact again I7 n7
    | brk => obtain ⟨σ7, H7, I7, q7⟩ := q7; exact ⟨σ7, H7, I7.unpinned, q7⟩
    | ret v => obtain ⟨x7, σ7, H7, I7, r7, q7⟩ := q7; exact ⟨x7, σ7, H7, I7.unpinned, r7, q7⟩
end
/-- over a list that the body leaves as it is -/
theorem for_list {K : PySem.W.Frag} {a : Addr} {xs : List V} {g : TG} {tb : TS} {D : Ends} {σ : St} {H : Hp} (Pv : Nat → St → Hp → Prop) (h0 : Pv 0 σ H) (hl : ∀ i σ H, i ≤ xs.length → Pv i σ H → SqL K H a xs)
    (hs : ∀ i x σ H, xs[i]? = some x → Pv i σ H → g x σ H fun σ2 H2 => tb { D with nx := Pv (i + 1), ct := Pv (i + 1), bk := D.nx } σ2 H2) (hd : ∀ σ H, Pv xs.length σ H → D.nx σ H) :
    ∃ W : Nat → Nat → St → Hp → Prop, (∃ m, W 0 m σ H) ∧ ∀ i m σ H, W i m σ H →
      ((Itl K a).stop i H ∧ D.nx σ H) ∨ ((Itl K a).go i H ∧ ∃ N : St → Hp → Prop, (∀ σ' H', N σ' H' → ∃ m', m' < m ∧ W (i + 1) m' σ' H') ∧ ∀ x H', (Itl K a).yld i H x H' → g x σ H' fun σ2 H2 => tb { D with nx := N, ct := N, bk := D.nx } σ2 H2) := by
  refine ⟨fun i m σ H => m = xs.length - i ∧ i ≤ xs.length ∧ Pv i σ H, ⟨xs.length, by simp, Nat.zero_le _, h0⟩, ?_⟩
  rintro i m σ H ⟨rfl, hi, p⟩
  have q := hl i σ H hi p
  by_cases hlt : i < xs.length
  · refine .inr ⟨⟨xs, xs[i], q, by simp [hlt]⟩, Pv (i + 1), fun σ' H' p' => ⟨xs.length - (i + 1), by omega, rfl, hlt, p'⟩, fun x H' y => ?_⟩
    obtain ⟨e, y⟩ := y
    subst e
    exact hs i x σ _ (y xs q) p
  · have e : i = xs.length := by omega
    subst e
    exact .inl ⟨⟨xs, q, Nat.le_refl _⟩, hd σ H p⟩
theorem for_range {lo : Int} {n : Nat} {g : TG} {tb : TS} {D : Ends} {σ : St} {H : Hp} (Pv : Nat → St → Hp → Prop) (h0 : Pv 0 σ H)
    (hs : ∀ i σ H, i < n → Pv i σ H → g (.int (lo + i)) σ H fun σ2 H2 => tb { D with nx := Pv (i + 1), ct := Pv (i + 1), bk := D.nx } σ2 H2) (hd : ∀ σ H, Pv n σ H → D.nx σ H) :
    ∃ W : Nat → Nat → St → Hp → Prop, (∃ m, W 0 m σ H) ∧ ∀ i m σ H, W i m σ H →
      ((Itr lo n).stop i H ∧ D.nx σ H) ∨ ((Itr lo n).go i H ∧ ∃ N : St → Hp → Prop, (∀ σ' H', N σ' H' → ∃ m', m' < m ∧ W (i + 1) m' σ' H') ∧ ∀ x H', (Itr lo n).yld i H x H' → g x σ H' fun σ2 H2 => tb { D with nx := N, ct := N, bk := D.nx } σ2 H2) := by
  refine ⟨fun i m σ H => m = n - i ∧ i ≤ n ∧ Pv i σ H, ⟨n, by simp, Nat.zero_le _, h0⟩, ?_⟩
  rintro i m σ H ⟨rfl, hi, p⟩
  by_cases hlt : i < n
  · refine .inr ⟨hlt, Pv (i + 1), fun σ' H' p' => ⟨n - (i + 1), by omega, rfl, hlt, p'⟩, fun x H' y => ?_⟩
    obtain ⟨e, y⟩ := y
    subst e y
    exact hs i σ _ hlt p
  · have e : i = n := by omega
    subst e
    exact .inl ⟨Nat.le_refl _, hd σ H p⟩
end L2
namespace L2
open PySem PySem.Spec PyProof.Rows
abbrev R2 := V → V → Hp → VK → Prop
/-- a two-place operation on values: f is binaryOp op, inplaceOp op or compareOp op -/
def OpR (X : Cx) (f : Value → Value → Sem Value) (r : R2) : Prop :=
  ∀ (pins : List (Addr × Obj)) (s : Shared) (σ : St) (H : Hp) (x y : V) (v u : Value) (Q : VK), Inv X pins σ H s → RelV x v → RelV y u → r x y H Q →
    wpAny (model X.prog X.w) X.A (f v u) (EP X pins σ Q) X.xe s
/-- a call of a value that is known (a builtin, a type) with values -/
def CallR (X : Cx) (f : Value) (r : List V → Hp → VK → Prop) : Prop :=
  ∀ (pins : List (Addr × Obj)) (s : Shared) (σ : St) (H : Hp) (xs : List V) (us : List Value) (Q : VK), Inv X pins σ H s → Vals xs us → r xs H Q →
    wpAny (model X.prog X.w) X.A (call f us) (EP X pins σ Q) X.xe s
def tOp (r : R2) (ta tb : TE) : TE := fun σ H Q => ta σ H fun x H1 => tb σ H1 fun y H2 => r x y H2 Q
/-- ints in, under C, and a value out -/
def rI (C : Int → Int → Prop) (g : Int → Int → V) : R2 := fun x y H Q => ∃ i j, x = .int i ∧ y = .int j ∧ C i j ∧ Q (g i j) H
def rI0 (g : Int → Int → V) : R2 := fun x y H Q => ∃ i j, x = .int i ∧ y = .int j ∧ Q (g i j) H
section
variable {X : Cx} {a b c : Expr} {ta tb tc : TE} {pos : Pos}
theorem binT (ha : PE X a ta) (hb : PE X b tb) {pins : List (Addr × Obj)} {s : Shared} {σ : St} {H : Hp} {R : V → V → Hp → Prop} (I : Inv X pins σ H s)
    (h : ta σ H fun x H1 => tb σ H1 fun y H2 => R x y H2) {Q : Value → Shared → Prop} {f : Value → Value → Sem Value}
    (hf : ∀ v u s2 x y H2, Inv X pins σ H2 s2 → RelV x v → RelV y u → R x y H2 → wpAny (model X.prog X.w) X.A (f v u) Q X.xe s2) :
    wpAny (model X.prog X.w) X.A (eval a X.env) (fun v s₁ => wpAny (model X.prog X.w) X.A (eval b X.env) (fun u s₂ => wpAny (model X.prog X.w) X.A (f v u) Q X.xe s₂) X.xe s₁) X.xe s := by
  refine thn (ha pins s σ H _ I h) fun v s1 ⟨x, H1, I1, r1, q1⟩ => ?_
  refine thn (hb pins s1 σ H1 _ I1 q1) fun u s2 ⟨y, H2, I2, r2, q2⟩ => ?_
  exact hf v u s2 x y H2 I2 r1 r2 q2
theorem pe_op {op : Operator} {r : R2} (ho : OpR X (binaryOp op) r) (ha : PE X a ta) (hb : PE X b tb) : PE X (.BinOp a op b pos) (tOp r ta tb) := by
  intro pins s σ H Q I h
  exact wpAny_BinOp (binT ha hb I h fun v u s2 x y H2 I2 rx ry q => ho pins s2 σ H2 x y v u Q I2 rx ry q)
theorem opI {f : Value → Value → Sem Value} {C : Int → Int → Prop} {g : Int → Int → Int}
    (rule : ∀ (i j : Int) (t u : Tok) (s : Shared) (Q : Value → Shared → Prop) (E : Value → Shared → Prop), C i j → Q (.int (g i j) s.toks) { s with toks := s.toks + 1 } → wpAny (model X.prog X.w) X.A (f (.int i t) (.int j u)) Q E s) :
    OpR X f (rI C fun i j => .int (g i j)) := by
  intro pins s σ H x y v u Q I rx ry h
  obtain ⟨i, j, rfl, rfl, hc, q⟩ := h
  obtain ⟨t, rfl⟩ := rx
  obtain ⟨t', rfl⟩ := ry
  exact rule i j t t' s _ _ hc ⟨.int (g i j), H, I.tok _, ⟨_, rfl⟩, q⟩
theorem opI0 {f : Value → Value → Sem Value} {g : Int → Int → Int}
    (rule : ∀ (i j : Int) (t u : Tok) (s : Shared) (Q : Value → Shared → Prop) (E : Value → Shared → Prop), Q (.int (g i j) s.toks) { s with toks := s.toks + 1 } → wpAny (model X.prog X.w) X.A (f (.int i t) (.int j u)) Q E s) :
    OpR X f (rI0 fun i j => .int (g i j)) := by
  intro pins s σ H x y v u Q I rx ry h
  obtain ⟨i, j, rfl, rfl, q⟩ := h
  obtain ⟨t, rfl⟩ := rx
  obtain ⟨t', rfl⟩ := ry
  exact rule i j t t' s _ _ ⟨.int (g i j), H, I.tok _, ⟨_, rfl⟩, q⟩
theorem opB0 {f : Value → Value → Sem Value} {g : Int → Int → Bool}
    (rule : ∀ (i j : Int) (t u : Tok) (s : Shared) (Q : Value → Shared → Prop) (E : Value → Shared → Prop), Q (.bool (g i j)) s → wpAny (model X.prog X.w) X.A (f (.int i t) (.int j u)) Q E s) :
    OpR X f (rI0 fun i j => .bl (g i j)) := by
  intro pins s σ H x y v u Q I rx ry h
  obtain ⟨i, j, rfl, rfl, q⟩ := h
  obtain ⟨t, rfl⟩ := rx
  obtain ⟨t', rfl⟩ := ry
  exact rule i j t t' s _ _ ⟨.bl (g i j), H, I, rfl, q⟩
def CDiv (i j : Int) : Prop := 0 < j ∧ j < 1073741824
def CPow (i j : Int) : Prop := 0 ≤ j ∧ j ≤ 1000000 ∧ i.natAbs < 2 ^ 64
def CMul (i j : Int) : Prop := (-(2 ^ 64) < i ∧ i < 2 ^ 64) ∨ (-(2 ^ 64) < j ∧ j < 2 ^ 64)
theorem CMul.ok {i j : Int} (h : CMul i j) : IntMulOk i j := by
  rcases h with ⟨h1, h2⟩ | ⟨h1, h2⟩
  · exact .of_left (intBits_le_64 h1 h2)
  · exact .of_right (intBits_le_64 h1 h2)
theorem two_pow_nn (k : Nat) : (0 : Int) ≤ 2 ^ k := by
  rw [two_pow_cast]
  exact Int.natCast_nonneg _
theorem op_add : OpR X (binaryOp .Add) (rI0 fun i j => .int (i + j)) := opI0 fun _ _ _ _ _ _ _ q => add_int q
theorem op_mul : OpR X (binaryOp .Mult) (rI CMul fun i j => .int (i * j)) := opI fun _ _ _ _ _ _ _ hc q => mul_int q hc.ok
/-- // by a positive divisor -/
theorem op_fdiv : OpR X (binaryOp .FloorDiv) (rI CDiv fun i j => .int (i / j)) := opI fun i j _ _ _ _ _ hc q => by
  have h1 : (0 : Int) < j := hc.1
  have h2 : j < 1073741824 := hc.2
  exact floordiv_int (by omega) (by rw [Int.fdiv_eq_ediv_of_nonneg i (by omega)]; exact q) (.inl (PyProof.noPylong_small (by omega)))
/-- % by a positive divisor of any size -/
theorem op_mod : OpR X (binaryOp .Mod) (rI (fun _ j => 0 < j) fun i j => .int (i % j)) := opI fun i j _ _ _ _ _ hc q => by
  have h1 : (0 : Int) < j := hc
  exact mod_int' (by omega) (by rw [Int.fmod_eq_emod_of_nonneg i (by omega)]; exact q)
theorem op_shl : OpR X (binaryOp .LShift) (rI CPow fun i j => .int (i * 2 ^ j.toNat)) := opI fun _ _ _ _ _ _ _ hc q => lshift_int_small hc.1 hc.2.1 hc.2.2 q
theorem op_shr : OpR X (binaryOp .RShift) (rI (fun _ j => 0 ≤ j) fun i j => .int (i / 2 ^ j.toNat)) := opI fun i j _ _ _ _ _ hc q =>
  rshift_int hc (by rw [Int.fdiv_eq_ediv_of_nonneg i (two_pow_nn _)]; exact q)
theorem op_and : OpR X (binaryOp .BitAnd) (rI0 fun i j => .int (Builtin.bitAnd i j)) := opI0 fun _ _ _ _ _ _ _ q => and_int q
end
/-- the scalars that == tells apart as data does -/
def scal : V → V → Bool
  | .non, .non => true | .non, .int _ => true | .int _, .non => true | .non, .bl _ => true | .bl _, .non => true | .non, .str _ => true | .str _, .non => true
  | .int _, .int _ => true | .bl _, .bl _ => true | .str _, .str _ => true | .byt _, .byt _ => true
  | .int _, .str _ => true | .str _, .int _ => true | .bl _, .str _ => true | .str _, .bl _ => true
  | _, _ => false
def rEq : R2 := fun x y H Q => scal x y = true ∧ Q (.bl (decide (x = y))) H
def rNe : R2 := fun x y H Q => scal x y = true ∧ Q (.bl (!decide (x = y))) H
theorem dec_int {i j : Int} : decide (V.int i = V.int j) = (i == j) := by
  rw [Bool.eq_iff_iff]
  simp
theorem dec_bl {i j : Bool} : decide (V.bl i = V.bl j) = (i == j) := by
  rw [Bool.eq_iff_iff]
  simp
theorem dec_str {i j : Str} : decide (V.str i = V.str j) = (i == j) := by
  rw [Bool.eq_iff_iff]
  simp
theorem dec_byt {i j : Array UInt8} : decide (V.byt i = V.byt j) = (i.toList == j.toList) := by
  rw [Bool.eq_iff_iff]
  cases i
  cases j
  simp
section
variable {X : Cx} {a b c : Expr} {ta tb tc : TE} {pos : Pos}
theorem fin_bl {pins : List (Addr × Obj)} {σ : St} {H : Hp} {s : Shared} {Q : VK} {k k' : Bool} (I : Inv X pins σ H s) (q : Q (.bl k) H) (e : k = k') : EP X pins σ Q (.bool k') s := by
  subst e
  exact ⟨.bl k, H, I, rfl, q⟩
theorem op_eq : OpR X (compareOp .Eq) rEq := by
  intro pins s σ H x y v u Q I rx ry h
  obtain ⟨hs, q⟩ := h
  cases x with
  | non =>
    cases rx
    cases y with
    | non => cases ry; exact PySem.EqNone.eq_none_none (fin_bl I q (by simp))
    | bl j => cases ry; exact PySem.EqNone.eq_none_bool (fin_bl I q (by simp))
    | int j => obtain ⟨t', rfl⟩ := ry; exact PySem.EqNone.eq_none_int (fin_bl I q (by simp))
    | str j => obtain ⟨t', rfl⟩ := ry; exact PySem.EqNone.eq_none_str (fin_bl I q (by simp))
    | _ => exact absurd (show false = true from hs) Bool.false_ne_true
  | bl i =>
    cases rx
    cases y with
    | non => cases ry; exact PySem.EqNone.eq_bool_none (fin_bl I q (by simp))
    | bl j => cases ry; exact eq_bool (fin_bl I q dec_bl)
    | str j => obtain ⟨t', rfl⟩ := ry; exact PySem.EqMixed.eq_bool_str (fin_bl I q (by simp))
    | _ => exact absurd (show false = true from hs) Bool.false_ne_true
  | int i =>
    obtain ⟨t, rfl⟩ := rx
    cases y with
    | non => cases ry; exact PySem.EqNone.eq_int_none (fin_bl I q (by simp))
    | int j => obtain ⟨t', rfl⟩ := ry; exact eq_int (fin_bl I q dec_int)
    | str j => obtain ⟨t', rfl⟩ := ry; exact PySem.EqMixed.eq_int_str (fin_bl I q (by simp))
    | _ => exact absurd (show false = true from hs) Bool.false_ne_true
  | str i =>
    obtain ⟨t, rfl⟩ := rx
    cases y with
    | non => cases ry; exact PySem.EqNone.eq_str_none (fin_bl I q (by simp))
    | bl j => cases ry; exact PySem.EqMixed.eq_str_bool (fin_bl I q (by simp))
    | int j => obtain ⟨t', rfl⟩ := ry; exact PySem.EqMixed.eq_str_int (fin_bl I q (by simp))
    | str j => obtain ⟨t', rfl⟩ := ry; exact eq_str (fin_bl I q dec_str)
    | _ => exact absurd (show false = true from hs) Bool.false_ne_true
  | byt i =>
    obtain ⟨t, rfl⟩ := rx
    cases y with
    | byt j => obtain ⟨t', rfl⟩ := ry; exact PySem.W.eq_bytes (fin_bl I q dec_byt)
    | _ => exact absurd (show false = true from hs) Bool.false_ne_true
  | _ => cases y <;> exact absurd (show false = true from hs) Bool.false_ne_true
theorem op_ne : OpR X (compareOp .NotEq) rNe := by
  intro pins s σ H x y v u Q I rx ry h
  obtain ⟨hs, q⟩ := h
  cases x with
  | non =>
    cases rx
    cases y with
    | non => cases ry; exact PySem.EqNone.ne_none_none (fin_bl I q (by simp))
    | bl j => cases ry; exact PySem.EqNone.ne_none_bool (fin_bl I q (by simp))
    | int j => obtain ⟨t', rfl⟩ := ry; exact PySem.EqNone.ne_none_int (fin_bl I q (by simp))
    | str j => obtain ⟨t', rfl⟩ := ry; exact PySem.EqNone.ne_none_str (fin_bl I q (by simp))
    | _ => exact absurd (show false = true from hs) Bool.false_ne_true
  | bl i =>
    cases rx
    cases y with
    | non => cases ry; exact PySem.EqNone.ne_bool_none (fin_bl I q (by simp))
    | bl j => cases ry; exact ne_bool (fin_bl I q (congrArg not dec_bl))
    | str j => obtain ⟨t', rfl⟩ := ry; exact PySem.EqMixed.ne_bool_str (fin_bl I q (by simp))
    | _ => exact absurd (show false = true from hs) Bool.false_ne_true
  | int i =>
    obtain ⟨t, rfl⟩ := rx
    cases y with
    | non => cases ry; exact PySem.EqNone.ne_int_none (fin_bl I q (by simp))
    | int j => obtain ⟨t', rfl⟩ := ry; exact ne_int (fin_bl I q (congrArg not dec_int))
    | str j => obtain ⟨t', rfl⟩ := ry; exact PySem.EqMixed.ne_int_str (fin_bl I q (by simp))
    | _ => exact absurd (show false = true from hs) Bool.false_ne_true
  | str i =>
    obtain ⟨t, rfl⟩ := rx
    cases y with
    | non => cases ry; exact PySem.EqNone.ne_str_none (fin_bl I q (by simp))
    | bl j => cases ry; exact PySem.EqMixed.ne_str_bool (fin_bl I q (by simp))
    | int j => obtain ⟨t', rfl⟩ := ry; exact PySem.EqMixed.ne_str_int (fin_bl I q (by simp))
    | str j => obtain ⟨t', rfl⟩ := ry; exact ne_str (fin_bl I q (congrArg not dec_str))
    | _ => exact absurd (show false = true from hs) Bool.false_ne_true
  | byt i =>
    obtain ⟨t, rfl⟩ := rx
    cases y with
    | byt j => obtain ⟨t', rfl⟩ := ry; exact PySem.W.ne_bytes (fin_bl I q (congrArg not dec_byt))
    | _ => exact absurd (show false = true from hs) Bool.false_ne_true
  | _ => cases y <;> exact absurd (show false = true from hs) Bool.false_ne_true
theorem op_lt : OpR X (compareOp .Lt) (rI0 fun i j => .bl (decide (i < j))) := opB0 fun _ _ _ _ _ _ _ q => lt_int q
theorem op_le : OpR X (compareOp .LtE) (rI0 fun i j => .bl (decide (i ≤ j))) := opB0 fun _ _ _ _ _ _ _ q => le_int q
theorem op_gt : OpR X (compareOp .Gt) (rI0 fun i j => .bl (decide (j < i))) := opB0 fun _ _ _ _ _ _ _ q => gt_int q
/-- two rules for one operation: by cases -/
theorem OpR.or {f : Value → Value → Sem Value} {r r' : R2} (h : OpR X f r) (h' : OpR X f r') : OpR X f (fun x y H Q => r x y H Q ∨ r' x y H Q) := by
  intro pins s σ H x y v u Q I rx ry q
  rcases q with q | q
  · exact h pins s σ H x y v u Q I rx ry q
  · exact h' pins s σ H x y v u Q I rx ry q
theorem nomark (b : Expr) {op : CmpOp} (h : op ≠ .In := by decide) (h2 : op ≠ .NotIn := by decide) : behindInMarks op b = false := by
  have e1 : (op == CmpOp.In) = false := by cases op <;> first | rfl | exact absurd rfl h
  have e2 : (op == CmpOp.NotIn) = false := by cases op <;> first | rfl | exact absurd rfl h2
  cases b <;> simp [behindInMarks, e1, e2]
/-- a comparison as a value; hm: nomark b, or (for in, not in) by with_unfolding_all rfl -/
theorem pe_cmpR {op : CmpOp} {r : R2} (ho : OpR X (compareOp op) r) (ha : PE X a ta) (hb : PE X b tb) (hm : behindInMarks op b = false) : PE X (.Compare a [op] [b] pos) (tOp r ta tb) := by
  intro pins s σ H Q I h
  exact wpAny_Compare1 (binT ha hb I h fun v u s2 x y H2 I2 rx ry q => ho pins s2 σ H2 x y v u Q I2 rx ry q) hm
/-- a reading of a value as a test -/
def tTest (t : TE) : TT := fun σ H Q => t σ H fun x H' => ∃ k, x = .bl k ∧ Q k H'
theorem pt_cmpR {op : CmpOp} {r : R2} (ho : OpR X (compareOp op) r) (ha : PE X a ta) (hb : PE X b tb) (hm : behindInMarks op b = false) : PT X (.Compare a [op] [b] pos) (tTest (tOp r ta tb)) := by
  intro pins s σ H Q I h
  refine wpAny_isTrue_Compare1 (thn (ha pins s σ H _ I h) fun v s1 ⟨x, H1, I1, r1, q1⟩ => thn (hb pins s1 σ H1 _ I1 q1) fun u s2 ⟨y, H2, I2, r2, q2⟩ =>
    thn (ho pins s2 σ H2 x y v u _ I2 r1 r2 q2) fun c s3 ⟨z, H3, I3, r3, k, e, q3⟩ => ?_) hm
  subst e
  cases r3
  exact wpAny_truthy_bool ⟨H3, I3, q3⟩
/-- a op1 b op2 c -/
def tChain (r r' : R2) (ta tb tc : TE) : TE := fun σ H Q => ta σ H fun x H1 => tb σ H1 fun y H2 => r x y H2 fun z H3 => ∃ k, z = .bl k ∧
  (if k = true then tc σ H3 fun w' H4 => r' y w' H4 Q else Q (.bl false) H3)
theorem pe_chain {op op' : CmpOp} {r r' : R2} (ho : OpR X (compareOp op) r) (ho' : OpR X (compareOp op') r') (ha : PE X a ta) (hb : PE X b tb) (hc : PE X c tc)
    (hm : lastMarks [op, op'] [b, c] = false := by with_unfolding_all rfl) : PE X (.Compare a [op, op'] [b, c] pos) (tChain r r' ta tb tc) := by
  intro pins s σ H Q I h
  refine Compare_chain (thn (ha pins s σ H _ I h) fun v s1 ⟨x, H1, I1, r1, q1⟩ => chain_link (thn (hb pins s1 σ H1 _ I1 q1) fun u s2 ⟨y, H2, I2, r2, q2⟩ =>
    thn (ho pins s2 σ H2 x y v u _ I2 r1 r2 q2) fun d s3 ⟨z, H3, I3, r3, k, e, q3⟩ => ?_)) hm
  subst e
  cases r3
  refine wpAny_truthy_bool ?_
  cases k with
  | false => exact ite_ff ⟨.bl false, H3, I3, rfl, q3⟩
  | true => exact ite_tt (chain_last (thn (hc pins s3 σ H3 _ I3 q3) fun w' s4 ⟨z', H4, I4, r4, q4⟩ => ho' pins s4 σ H4 y z' u w' Q I4 r2 r4 q4))
theorem line63 : (sizeLine : Nat) < 2 ^ 63 := by rw [sizeLine_eq]; decide
theorem vals1 {x : V} {us : List Value} (r : Vals [x] us) : ∃ u, us = [u] ∧ RelV x u := by
  cases r with
  | cons r1 r2 => cases r2; exact ⟨_, rfl, r1⟩
end
end L2
namespace L2
open PySem PySem.Spec PyProof.Rows
structure ObjM (h : Heap) (x dx C : Addr) (mA : Str → Option Value) : Prop where
  obj : h.get? x = some (PySem.W.instObj C dx)
  ns : h.Ns1 dx mA
  ne : dx ≠ x
theorem lookIn_ns {h : Heap} {dx : Addr} {mA : Str → Option Value} (n : h.Ns1 dx mA) : ∃ od, h.get? dx = some od ∧ ∀ name, PySem.W.lookIn name od = some (mA name) := by
  obtain ⟨o, es, ep, ho, hd, hk, _, hm⟩ := n
  refine ⟨o, ho, fun name => ?_⟩
  have e := hm name
  unfold nsFind findBy at e
  rw [← Array.find?_toList] at e
  unfold PySem.W.lookIn
  rw [hd]
  dsimp only
  split
  · rename_i y q
    rw [q] at e
    exact congrArg some e
  · rename_i q
    rw [q] at e
    have a : es.toList.any (·.refKey) = false := by
      rw [List.any_eq_false]
      intro y hy
      obtain ⟨z, t, hkey⟩ := hk y (Array.mem_toList_iff.mp hy)
      simp [DictEntry.refKey, hkey]
    have a' : ¬ es.toList.any (·.refKey) = true := by rw [a]; exact Bool.false_ne_true
    rw [if_neg a']
    exact congrArg some e
theorem ObjM.look {h : Heap} {x dx C : Addr} {mA : Str → Option Value} (I : ObjM h x dx C mA) : ∃ od, PySem.W.InstAt h x (PySem.W.instObj C dx) C (some od) ∧ ∀ name, PySem.W.lookIn name od = some (mA name) :=
  let ⟨od, ho, hl⟩ := lookIn_ns I.ns
  ⟨od, ⟨I.obj, rfl, rfl, ho⟩, hl⟩
section
variable {prog : Program} {w : World} {A : Around} {E : Value → Shared → Prop} {s : Shared} {K : PySem.W.Frag} {x dx C f : Addr} {mA : Str → Option Value} {name : Str} {v : Value}
theorem get_map {expr : Bool} {Q : Value → Shared → Prop} (X : K.In s.heap) (I : ObjM s.heap x dx C mA) (hg : PySem.W.plainGet K C name = true) (hh : PySem.W.hasDictIn K C = true)
    (ha : PySem.W.findIn K (.ref C) name = some none) (hv : mA name = some v) (hv' : PySem.W.handedIn v = true) (h : Q v { s with toks := s.toks + 1 }) :
    wpAny (model prog w) A (getAttr (.ref x) name expr) Q E s := by
  obtain ⟨od, J, hl⟩ := I.look
  exact PySem.W.get_value X J (PySem.W.plainGet_of hg).1 (PySem.W.findObj_own hh ha rfl (by rw [hl, hv])) hv' h
theorem get_meth {pl : Sem Bool} {Q : Value × List Value → Shared → Prop} (X : K.In s.heap) (I : ObjM s.heap x dx C mA) (hg : PySem.W.plainGet K C name = true)
    (hf : PySem.W.findIn K (.ref C) name = some (some (.ref f))) (ht : PySem.W.isFn K (.ref f) = true) (hv : mA name = none) (h : Q (.ref f, [.ref x]) s) :
    wpAny (model prog w) A (getMethod (.ref x) name pl) Q E s := by
  obtain ⟨od, J, hl⟩ := I.look
  exact PySem.W.method_fn X J (PySem.W.plainGet_of hg).1 (PySem.W.plainGet_of hg).2 hf (beq_iff_eq.mp ht) (by show (PySem.W.lookIn name od).map (·.isSome) = some false; rw [hl, hv]; rfl) h
theorem set_map {ns : List Str} {Q : Unit → Shared → Prop} (X : K.In s.heap) (I : ObjM s.heap x dx C mA)
    (hs : PySem.W.findIn K (.ref C) "__setattr__" = some (some (.builtin "object.__setattr__"))) (hp : PySem.W.plainOver K C = true) (ht : PySem.W.takerIn K C name = some none) (hh : PySem.W.hasDictIn K C = true)
    (hw : PySem.Within mA ns) (hsz : ns.length ≤ sizeLine)
    (h : ∀ h', ObjM h' x dx C (fun y => if y = name then some v else mA y) → Heap.SameBut dx s.heap h' → Q () { s with heap := h', toks := s.toks + 2 }) :
    wpAny (model prog w) A (setAttr (.ref x) name v) Q E s := by
  obtain ⟨od, J, hl⟩ := I.look
  refine PySem.W.set_plain X J hs (PySem.W.osa_open (s := { s with toks := s.toks + 1 }) (r := none) X J hp ht fun b => ?_)
  obtain ⟨cd, hc, hd'⟩ := PySem.W.any_some hh
  have hx : s.heap.get? x = some ⟨.ref C, some dx, .plain, #[]⟩ := I.obj
  refine wpAny_bind (wpAny_pure (wpAny_bind (wpAny_bind (wpAny_loadPart hx (wpAny_bind (PySem.W.Looks.here (s := { s with toks := s.toks + 1 }) (PySem.W.looks_clsIn X hc) ?_))))))
  rw [hd']
  refine wpAny_pure (a := some dx) (wpAny_bind (wpAny_pure (wpAny_bind ?_)))
  refine wpAny_nsSet1 (s := { s with toks := s.toks + 1 }) I.ns fun h' hn2 hs2 => ?_
  obtain ⟨oD, esD, epD, hoD, hdD, hcD⟩ := hn2.count (PySem.Within.cons name v hw)
  refine wpAny_bind (wpAny_lookBehind hoD (by rw [hdD]; exact pastItsLine_dict (Nat.le_trans hcD (by rw [List.length_cons]; omega))) ?_)
  exact wpAny_pure (h _ ⟨(hs2.2 _ (Ne.symm I.ne)).trans I.obj, hn2, I.ne⟩ hs2)
/-- C(..): the dict at the heap's end, the instance behind it; then its __init__ -/
theorem make_map {R : Result → Shared → Prop} {vs : List Value} {kw : List (Str × Value)} (X : K.In s.heap) (hm : PySem.W.makesIn K C = true)
    (hi : PySem.W.findIn K (.ref C) "__init__" = some (some (.ref f))) (hf : PySem.W.typeIn K (.ref f) = some (.type "function"))
    (h : codeAny (model prog w) (A.under (.builtin "type.__call__" ⟨.ref C :: vs, kw⟩)) (.call (.ref f) ⟨.ref (s.heap.objs.size + 1) :: vs, kw⟩) (PySem.W.InitBack (s.heap.objs.size + 1) R)
      { s with heap := (s.heap.push PySem.W.emptyDict).push (PySem.W.instObj C s.heap.objs.size) }) :
    codeAny (model prog w) A (.call (.ref C) ⟨vs, kw⟩) R s := by
  obtain ⟨hh, g, d, t, os⟩ := s
  exact PySem.W.make_core (PySem.W.makes_of X hm) (PySem.W.looks_findIn X hi) (fun self => PySem.W.bind_fn X self hf) (.inl rfl) h
end
def putF (f : Str) (v : V) : List (Str × V) → List (Str × V)
  | [] => [(f, v)]
  | (g, x) :: r => if g = f then (g, v) :: r else (g, x) :: putF f v r
theorem lookup_putF (f g : Str) (v : V) : ∀ fs : List (Str × V), (putF f v fs).lookup g = if g = f then some v else fs.lookup g
  | [] => by
    show List.lookup g [(f, v)] = _
    by_cases h : g = f
    · have hb : (g == f) = true := beq_iff_eq.mpr h
      simp only [List.lookup, hb, if_pos h]
    · have hb : (g == f) = false := beq_eq_false_iff_ne.mpr h
      simp only [List.lookup, hb, if_neg h]
  | (k, x) :: r => by
    have ih := lookup_putF f g v r
    rw [show putF f v ((k, x) :: r) = (if k = f then (k, v) :: r else (k, x) :: putF f v r) from rfl]
    by_cases hk : k = f
    · rw [if_pos hk]
      by_cases h : g = k
      · have hb : (g == k) = true := beq_iff_eq.mpr h
        simp only [List.lookup, hb, if_pos (h.trans hk)]
      · have hb : (g == k) = false := beq_eq_false_iff_ne.mpr h
        simp only [List.lookup, hb, if_neg (fun e : g = f => h (e.trans hk.symm))]
    · rw [if_neg hk]
      by_cases h : g = k
      · have hb : (g == k) = true := beq_iff_eq.mpr h
        simp only [List.lookup, hb, if_neg (fun e : g = f => hk (h.symm.trans e))]
      · have hb : (g == k) = false := beq_eq_false_iff_ne.mpr h
        simp only [List.lookup, hb]
        exact ih
theorem keys_putF (f : Str) (v : V) : ∀ fs : List (Str × V), f ∈ (putF f v fs).map (·.1) ∧ ∀ g, g ∈ fs.map (·.1) → g ∈ (putF f v fs).map (·.1)
  | [] => ⟨by simp [putF], fun g h => by simp at h⟩
  | (k, x) :: r => by
    obtain ⟨i1, i2⟩ := keys_putF f v r
    rw [show putF f v ((k, x) :: r) = (if k = f then (k, v) :: r else (k, x) :: putF f v r) from rfl]
    by_cases hk : k = f
    · rw [if_pos hk]
      subst hk
      exact ⟨by simp, fun g h => by simpa using h⟩
    · rw [if_neg hk]
      refine ⟨?_, fun g h => ?_⟩
      · rw [List.map_cons]
        exact List.mem_cons_of_mem _ i1
      · rw [List.map_cons] at h ⊢
        rcases List.mem_cons.mp h with e | e
        · exact List.mem_cons.mpr (.inl e)
        · exact List.mem_cons_of_mem _ (i2 g e)
theorem length_putF (f : Str) (v : V) : ∀ fs : List (Str × V), (putF f v fs).length ≤ fs.length + 1
  | [] => by simp [putF]
  | (k, x) :: r => by
    have ih := length_putF f v r
    rw [show putF f v ((k, x) :: r) = (if k = f then (k, v) :: r else (k, x) :: putF f v r) from rfl]
    by_cases hk : k = f
    · rw [if_pos hk, List.length_cons, List.length_cons]; omega
    · rw [if_neg hk, List.length_cons, List.length_cons]; omega
theorem RelO.some_of {v : V} {o : Option Value} (r : RelO (some v) o) : ∃ u, o = some u ∧ RelV v u := by
  cases o with
  | none => exact (show False from r).elim
  | some u => exact ⟨u, rfl, r⟩
theorem RelO.none_of {o : Option Value} (r : RelO none o) : o = none := by
  cases o with
  | none => rfl
  | some u => exact (show False from r).elim
theorem handed_of {v : V} {u : Value} (r : RelV v u) : PySem.W.handedIn u = true := by
  cases v with
  | non => cases (show u = Value.none from r); rfl
  | bl b => cases (show u = Value.bool b from r); rfl
  | int i => obtain ⟨t, e⟩ := (show ∃ t, u = Value.int i t from r); cases e; rfl
  | str x => obtain ⟨t, e⟩ := (show ∃ t, u = Value.str x t from r); cases e; rfl
  | byt b => obtain ⟨t, e⟩ := (show ∃ t, u = Value.bytes b t from r); cases e; rfl
  | flt b => obtain ⟨t, e⟩ := (show ∃ t, u = Value.float b t from r); cases e; rfl
  | ref a => cases (show u = Value.ref a from r); rfl
  | ty n => cases (show u = Value.type n from r); rfl
section
variable {P : Program} {w : World} {H H' : Hp} {h h' : Heap} {a C dx : Addr} {fs fs' : List (Str × V)}
theorem ins_get (hok : HOk P w H h) (e : H a = some (.ins C dx fs)) : ∃ mA, ObjM h a dx C mA ∧ (∀ f, RelO (fs.lookup f) (mA f)) ∧ PySem.Within mA (fs.map (·.1)) ∧ fs.length ≤ 1000 ∧ H dx = some (.own a) := by
  obtain ⟨d, z, ne, ob, mA, n, r, q⟩ := (show ObjOk P w H h a (.ins C dx fs) from hok a _ e)
  exact ⟨mA, ⟨ob, n, ne⟩, r, q, z, d⟩
end
structure Cls (K : PySem.W.Frag) (C : Addr) : Prop where
  pg : PySem.W.plainGet K C Str.empty = true
  hd : PySem.W.hasDictIn K C = true
  po : PySem.W.plainOver K C = true
  sa : PySem.W.findIn K (.ref C) "__setattr__" = some (some (.builtin "object.__setattr__"))
theorem Cls.get {K : PySem.W.Frag} {C : Addr} (c : Cls K C) (f : Str) : PySem.W.plainGet K C f = true := c.pg
/-- no class of it has the name -/
def NoAttr (K : PySem.W.Frag) (C : Addr) (f : Str) : Prop := PySem.W.findIn K (.ref C) f = some none
theorem NoAttr.taker {K : PySem.W.Frag} {C : Addr} {f : Str} (n : NoAttr K C f) : PySem.W.takerIn K C f = some none := by
  unfold PySem.W.takerIn
  rw [show PySem.W.findIn K (.ref C) f = some none from n]
  rfl
/-- a method: a plain def of the class or of one above it -/
structure Meth (K : PySem.W.Frag) (C : Addr) (m : Str) (f : Addr) : Prop where
  at_ : PySem.W.findIn K (.ref C) m = some (some (.ref f))
  fn : PySem.W.isFn K (.ref f) = true
  kp : PySem.W.keepIn K (.ref f) = true
section
variable {X : Cx} {pins : List (Addr × Obj)} {σ : St} {H : Hp} {s : Shared} {a C dx : Addr} {fs : List (Str × V)} {f : Str} {v : V} {A : Around} {E : Value → Shared → Prop}
theorem getattr_ok {b : Bool} {Q : Value → Shared → Prop} (I : Inv X pins σ H s) (e : H a = some (.ins C dx fs)) (c : Cls X.K C) (n : NoAttr X.K C f) (l : fs.lookup f = some v)
    (h : ∀ u s', Inv X pins σ H s' → RelV v u → Q u s') : wpAny (model X.prog X.w) A (getAttr (.ref a) f b) Q E s := by
  obtain ⟨mA, O, r, _, _, _⟩ := ins_get I.hok e
  obtain ⟨u, hu, ru⟩ := RelO.some_of (v := v) (o := mA f) (by rw [← l]; exact r f)
  exact get_map I.kIn O (c.get f) c.hd n hu (handed_of ru) (h u _ (I.tok _) ru)
theorem getmeth_ok {m : Str} {g : Addr} {pl : Sem Bool} {Q : Value × List Value → Shared → Prop} (I : Inv X pins σ H s) (e : H a = some (.ins C dx fs)) (c : Cls X.K C) (k : Meth X.K C m g) (l : fs.lookup m = none)
    (h : Q (.ref g, [.ref a]) s) : wpAny (model X.prog X.w) A (getMethod (.ref a) m pl) Q E s := by
  obtain ⟨mA, O, r, _, _, _⟩ := ins_get I.hok e
  have hn : mA m = none := RelO.none_of (by rw [← l]; exact r m)
  exact get_meth I.kIn O (c.get m) k.at_ k.fn hn h
theorem setattr_ok {y : V} {u : Value} {Q : Unit → Shared → Prop} (I : Inv X pins σ H s) (e : H a = some (.ins C dx fs)) (c : Cls X.K C) (n : NoAttr X.K C f) (hl : fs.length < 1000) (ry : RelV y u)
    (h : ∀ s', Inv X pins σ (upd H a (.ins C dx (putF f y fs))) s' → Q () s') : wpAny (model X.prog X.w) A (setAttr (.ref a) f u) Q E s := by
  obtain ⟨mA, O, r, wi, _, ho⟩ := ins_get I.hok e
  have hz : (fs.map (·.1)).length ≤ sizeLine := by rw [List.length_map, sizeLine_eq]; omega
  refine set_map I.kIn O c.sa c.po n.taker c.hd wi hz fun h' O' sb => h _ ?_
  have hd : ∃ o, h'.get? dx = some o := let ⟨o, _, _, e', _⟩ := O'.ns; ⟨o, e'⟩
  refine I.write (x := a) (e := dx) (by rw [e]; exact True.intro) (.inr ho) (fun b q hb z => (sb.2 b hb).trans z) hd ?_
  refine ⟨by rw [upd_ne O.ne]; exact ho, ?_, O.ne, O'.obj, _, O'.ns, fun g => ?_, fun g hg => ?_⟩
  · have := length_putF f y fs; omega
  · show RelO ((putF f y fs).lookup g) (if g = f then some u else mA g)
    rw [lookup_putF]
    by_cases q : g = f
    · rw [if_pos q, if_pos q]; exact ry
    · rw [if_neg q, if_neg q]; exact r g
  · by_cases q : g = f
    · rw [q]; exact (keys_putF f y fs).1
    · refine (keys_putF f y fs).2 g (wi g fun z => hg ?_)
      show (if g = f then some u else mA g) = none
      rw [if_neg q]; exact z
/-- a new instance, tracked, without attributes -/
theorem Inv.made (I : Inv X pins σ H s) : Inv X pins σ (upd (upd H s.heap.objs.size (.own (s.heap.objs.size + 1))) (s.heap.objs.size + 1) (.ins C s.heap.objs.size []))
    { s with heap := (s.heap.push PySem.W.emptyDict).push (PySem.W.instObj C s.heap.objs.size) } := by
  have e1 : (s.heap.push PySem.W.emptyDict).get? s.heap.objs.size = some PySem.W.emptyDict := Heap.get?_push_size s.heap rfl
  have e2 : ((s.heap.push PySem.W.emptyDict).push (PySem.W.instObj C s.heap.objs.size)).get? (s.heap.objs.size + 1) = some (PySem.W.instObj C s.heap.objs.size) := by
    have := Heap.get?_push_size (s.heap.push PySem.W.emptyDict) (o := PySem.W.instObj C s.heap.objs.size) rfl
    rwa [Heap.size_push] at this
  have e3 : (s.heap.push PySem.W.emptyDict).Ns s.heap.objs.size (fun _ => none) := ⟨PySem.W.emptyDict, #[], _, e1, rfl, (fun e he => absurd he (by simp)), fun _ => rfl⟩
  have I1 := I.laid (a := s.heap.objs.size) (o := .own (s.heap.objs.size + 1)) (h' := s.heap.push PySem.W.emptyDict) (t' := s.toks) (fun b u q => Heap.get?_push_of_some _ q) (Nat.le_refl _) ⟨_, e1⟩
  refine I1.laid (a := s.heap.objs.size + 1) (o := .ins C s.heap.objs.size []) (t' := s.toks) (fun b u q => Heap.get?_push_of_some _ q) (Nat.le_of_eq (Heap.size_push _ _)) ?_
  have ne : s.heap.objs.size ≠ s.heap.objs.size + 1 := Nat.ne_of_lt (Nat.lt_succ_self _)
  refine ⟨by rw [upd_ne ne, upd_same], Nat.zero_le _, ne, e2, fun _ => none, (Heap.Ns1.of_empty e3).at fun o q => Heap.get?_push_of_some _ q, fun _ => True.intro, fun y hy => absurd rfl hy⟩
/-- e.f where nothing but the object is asked: through attributeBase (super) and the last hold -/
theorem attr_of {prog : Program} {w : World} {env : Env} {e : Expr} {f : Str} {pos : Pos} {s : Shared} {Q : Value → Shared → Prop} (hb : attributeBase e f env (eval e env) = eval e env)
    (h : wpAny (model prog w) A (eval e env) (fun o s₁ => wpAny (model prog w) A (getAttr o f true) Q E s₁) E s) : wpAny (model prog w) A (eval (.Attribute e f pos) env) Q E s :=
  Attribute_any_ h (by rw [arm_eval_Attribute, hb])
end
/-- e.f, an attribute of the instance -/
def tFld (K : PySem.W.Frag) (ta : TE) (f : Str) : TE := fun σ H Q => ta σ H fun x H1 => ∃ a C dx fs v, x = .ref a ∧ H1 a = some (.ins C dx fs) ∧ Cls K C ∧ NoAttr K C f ∧ fs.lookup f = some v ∧ Q v H1
/-- e.f = value -/
def sFld (K : PySem.W.Frag) (ta tv : TE) (f : Str) : TS := fun D σ H => tv σ H fun y H1 => ta σ H1 fun x H2 => ∃ a C dx fs, x = .ref a ∧ H2 a = some (.ins C dx fs) ∧ Cls K C ∧ NoAttr K C f ∧ fs.length < 1000 ∧
  D.nx σ (upd H2 a (.ins C dx (putF f y fs)))
section
variable {X : Cx} {o e value : Expr} {f : Str} {pos pos' tpos : Pos} {ta tv : TE}
theorem pe_fld (he : PE X e ta) (hb : attributeBase e f X.env (eval e X.env) = eval e X.env) : PE X (.Attribute e f pos) (tFld X.K ta f) := by
  intro pins s σ H Q I h
  refine attr_of hb (thn (he pins s σ H _ I h) fun u s1 ⟨x, H1, I1, rx, a, C, dx, fs, v, ex, ea, c, n, l, q⟩ => ?_)
  subst ex
  obtain rfl : u = Value.ref a := rx
  exact getattr_ok I1 ea c n l fun u' s2 I2 ru => ⟨v, H1, I2, ru, q⟩
theorem ps_fld (ha : PE X o ta) (hv : PE X value tv) (hs : swapsWith value (some (.Attribute o f pos')) pos.line X.env = pure false) : PS X (.Assign [.Attribute o f pos'] value pos) (sFld X.K ta tv f) := by
  intro pins s σ H D I h
  refine plainObj_wpAny_Assign_Attribute (thn (hv pins s σ H _ I h) fun u s1 ⟨y, H1, I1, ry, q⟩ => thn (ha pins s1 σ H1 _ I1 q) fun ov s2 ⟨x, H2, I2, rx, a, C, dx, fs, ex, ea, c, n, l, q2⟩ => ?_) hs
  subst ex
  obtain rfl : ov = Value.ref a := rx
  exact setattr_ok I2 ea c n l ry fun s3 I3 => ⟨σ, _, I3, q2⟩
end
section
variable {X : Cx} {pins : List (Addr × Obj)} {σ : St} {H : Hp} {s : Shared} {A : Around} {E : Value → Shared → Prop} {Q : Value → Shared → Prop} {c : Value} {b : Bool}
end
end L2
namespace L2
open PySem PySem.Spec PyProof.Rows
structure Room (k : Nat) (A : Around) : Prop where
  hd : A.handled = none
  dp : A.depth + 3 * k + 5 < recursionLimit
  un : A.units + 16 * k + 200 < cLine
theorem Room.mono {j k : Nat} {A : Around} (r : Room k A) (h : j ≤ k) : Room j A := ⟨r.hd, by have := r.dp; omega, by have := r.un; omega⟩
theorem Room.deeper {k : Nat} {A : Around} (r : Room (k + 1) A) (env : Env) : Room k (A.deeper env) :=
  ⟨r.hd, by have := r.dp; show A.depth + 1 + 3 * k + 5 < _; omega, by have := r.un; show A.units + 3 + 16 * k + 200 < _; omega⟩
theorem Room.in1 {k : Nat} {A : Around} (r : Room (k + 1) A) : Room k A.in1 :=
  ⟨r.hd, by have := r.dp; show A.depth + 3 * k + 5 < _; omega, by have := r.un; show A.units + 1 + 16 * k + 200 < _; omega⟩
theorem make_depth {A : Around} {C : Addr} {us : List Value} {kw : List (Str × Value)} : (A.under (.builtin "type.__call__" ⟨.ref C :: us, kw⟩)).depth = A.depth + 1 := by
  first | rfl | simp [Around.under, Code.weight, Code.isCreation, Code.isGuard, Code.isCaller, Code.frames, Code.isFrame, guardIds]
theorem make_units {A : Around} {C : Addr} {us : List Value} {kw : List (Str × Value)} : (A.under (.builtin "type.__call__" ⟨.ref C :: us, kw⟩)).units = A.units + 1 := by
  first | rfl | simp [Around.under, Code.cUnits, Code.frames, Code.isFrame]
theorem Room.make {k : Nat} {A : Around} (r : Room (k + 1) A) (C : Addr) (us : List Value) (kw : List (Str × Value)) : Room k (A.under (.builtin "type.__call__" ⟨.ref C :: us, kw⟩)) :=
  ⟨r.hd, by have := r.dp; rw [make_depth]; omega, by have := r.un; rw [make_units]; omega⟩
theorem Room.depth {k : Nat} {A : Around} (r : Room k A) : A.depth < recursionLimit := by have := r.dp; omega
theorem Room.units {k : Nat} {A : Around} (r : Room k A) : A.units + 64 < cLine := by have := r.un; omega
def tNil : TA := fun _ H Q => Q [] H
def tCons (ta : TE) (tr : TA) : TA := fun σ H Q => ta σ H fun x H1 => tr σ H1 fun xs H2 => Q (x :: xs) H2
section
variable {X : Cx} {e : Expr} {es : List Expr} {te : TE} {t : TA} {pos : Pos}
theorem pa_nil : PA X [] tNil := fun _ _ _ _ H Q I h => Calls.spliced_nil ⟨[], H, I, .nil, h⟩
theorem pa_cons (ha : PE X e te) (hr : PA X es t) (hs : starEach (e :: es) X.env = (false, eval e X.env) :: starEach es X.env := by rfl) : PA X (e :: es) (tCons te t) := by
  intro pos pins s σ H Q I h
  rw [hs]
  show wpAny _ _ (spliced ((false, eval e X.env) :: backTo pos (starEach es X.env))) _ _ s
  refine Calls.spliced_cons (thn (ha pins s σ H _ I h) fun u s1 ⟨x, H1, I1, r1, q1⟩ => ?_)
  exact thn (hr pos pins s1 σ H1 _ I1 q1) fun us s2 ⟨xs, H2, I2, r2, q2⟩ => ⟨x :: xs, H2, I2, .cons r1 r2, q2⟩
/-- a tuple, a list of written items -/
def tTup (t : TA) : TE := fun σ H Q => t σ H fun xs H1 => xs.length ≤ sizeLine ∧ ∀ p, H1 p = none → Q (.ref p) (upd H1 p (.tup xs))
def tLst (t : TA) : TE := fun σ H Q => t σ H fun xs H1 => xs.length ≤ sizeLine ∧ ∀ p, H1 p = none → Q (.ref p) (upd H1 p (.lst xs))
theorem pe_tup {x1} (h : PA X es t) : PE X (.Tuple es x1 pos) (tTup t) := by
  intro pins s σ H Q I hq
  refine wpAny_Tuple_spliced (thn (h pos pins s σ H _ I hq) fun us s1 ⟨xs, H1, I1, r, z, q⟩ => ⟨by rw [← r.length]; exact z, ?_⟩)
  have hf : H1 s1.heap.objs.size = none := I1.hok.fresh (Nat.le_refl _)
  refine ⟨.ref s1.heap.objs.size, upd H1 s1.heap.objs.size (.tup xs), I1.laid (t' := s1.toks) (fun b u e => Heap.get?_push_of_some _ e) (Nat.le_refl _) ?_, rfl, q _ hf⟩
  exact ⟨z, us, r, ⟨_, Heap.get?_push_size _ rfl, rfl, _, rfl⟩⟩
theorem pe_lst (h : PA X es t) : PE X (.List es pos) (tLst t) := by
  intro pins s σ H Q I hq
  refine wpAny_List_spliced (thn (h pos pins s σ H _ I hq) fun us s1 ⟨xs, H1, I1, r, z, q⟩ => ⟨by rw [← r.length]; exact z, ?_⟩)
  have hf : H1 s1.heap.objs.size = none := I1.hok.fresh (Nat.le_refl _)
  refine ⟨.ref s1.heap.objs.size, upd H1 s1.heap.objs.size (.lst xs), I1.laid (t' := s1.toks) (fun b u e => Heap.get?_push_of_some _ e) (Nat.le_refl _) ?_, rfl, q _ hf⟩
  exact ⟨z, us, 0, r, Heap.get?_push_size _ rfl⟩
end
/-- a def's promise: the bound arguments in the parameters' order, the heap, the wanted end, the wanted exception -/
abbrev Sp := List V → Hp → VK → XK → Prop
/-- how an exception lies behind a call (file 08 gives it): the callers' frames, abstract heap and state ahead of the call, the wish, the exception, the state -/
abbrev CXT := List Env → Hp → Shared → XK → Value → Shared → Prop
/-- the state at a call -/
structure Env0 (P : Program) (w : World) (K : PySem.W.Frag) (mg : Str → Option Value) (base : Heap) (A : Around) (outer : List Env) (s : Shared) (H : Hp) : Prop where
  frames : A.frames = some outer
  mod : Mod K mg base
  bs : ∀ b o, base.get? b = some o → s.heap.get? b = some o ∧ H b = none
  bsz : base.objs.size ≤ s.heap.objs.size
  funs : s.heap.FunFrames base outer
  frf : ∀ b ∈ frs outer, H b = none
  hok : HOk P w H s.heap
  bare : AllBare s.gens
/-- a call's end -/
def CE (outer : List Env) (P : Program) (w : World) (H : Hp) (s : Shared) (Q : VK) (u : Value) (s' : Shared) : Prop :=
  ∃ v H', s'.os = s.os ∧ AllBare s'.gens ∧ Un (frs outer) [] H H' s.heap s'.heap ∧ HOk P w H' s'.heap ∧ RelV v u ∧ Q v H'
def CR (CX : CXT) (outer : List Env) (P : Program) (w : World) (H : Hp) (s : Shared) (Q : VK) (E : XK) (r : Result) (s' : Shared) : Prop :=
  match r with
  | .ok (.ret u) => CE outer P w H s Q u s'
  | .ok _ => False
  | .error e => CX outer H s E e s'
structure FnOk (P : Program) (w : World) (K : PySem.W.Frag) (mg : Str → Option Value) (base : Heap) (CX : CXT) (k : Nat) (f : Addr) (fd : FuncData) (ps : List Str) (sp : Sp) : Prop where
  len : ∀ vs H Q E, sp vs H Q E → vs.length = ps.length
  run : ∀ (A : Around) (outer : List Env) (s : Shared) (H : Hp) (args : Args) (us : List Value) (vs : List V) (Q : VK) (E : XK), Room k A → Env0 P w K mg base A outer s H → BindsTo s fd args (ps.zip us) → Vals vs us → sp vs H Q E →
    codeAny (model P w) A (.call (.ref f) args) (CR CX outer P w H s Q E) s
theorem FnOk.mono {P : Program} {w : World} {K : PySem.W.Frag} {mg : Str → Option Value} {base : Heap} {CX : CXT} {j k : Nat} {f : Addr} {fd : FuncData} {ps : List Str} {sp : Sp} (F : FnOk P w K mg base CX j f fd ps sp) (h : j ≤ k) :
    FnOk P w K mg base CX k f fd ps sp := ⟨F.len, fun A outer s H args us vs Q E hr => F.run A outer s H args us vs Q E (hr.mono h)⟩
theorem Env0.make {P : Program} {w : World} {K : PySem.W.Frag} {mg : Str → Option Value} {base : Heap} {A : Around} {outer : List Env} {s : Shared} {H : Hp} (e : Env0 P w K mg base A outer s H) (C : Addr) (us : List Value) (kw : List (Str × Value)) :
    Env0 P w K mg base (A.under (.builtin "type.__call__" ⟨.ref C :: us, kw⟩)) outer s H := ⟨by first | exact e.frames | (simpa [Around.under, Code.envs, Code.isFrame, pushEnvs] using e.frames), e.mod, e.bs, e.bsz, e.funs, e.frf, e.hok, e.bare⟩
theorem Env0.in1 {P : Program} {w : World} {K : PySem.W.Frag} {mg : Str → Option Value} {base : Heap} {A : Around} {outer : List Env} {s : Shared} {H : Hp} (e : Env0 P w K mg base A outer s H) :
    Env0 P w K mg base A.in1 outer s H := ⟨e.frames, e.mod, e.bs, e.bsz, e.funs, e.frf, e.hok, e.bare⟩
section
variable {X : Cx} {pins : List (Addr × Obj)} {σ : St} {H : Hp} {s s' : Shared}
/-- from a body: what a callee wants -/
theorem Inv.env0 (I : Inv X pins σ H s) : Env0 X.prog X.w X.K X.mg X.base X.A X.stack s H :=
  ⟨I.ok.frames, I.ok.mod, I.bs, Nat.le_trans I.ok.bsz I.sz, I.stack, I.stkFree, I.hok, I.bare⟩
/-- behind a call -/
theorem Inv.after {Q : VK} {u : Value} (I : Inv X pins σ H s) (h : CE X.stack X.prog X.w H s Q u s') : EP X pins σ Q u s' := by
  obtain ⟨v, H', os, bare, un, hok, r, q⟩ := h
  obtain ⟨hh, g, d, t, os'⟩ := s'
  obtain rfl : os' = s.os := os
  exact ⟨v, H', I.call (h' := hh) (g' := g) (d' := d) (t' := t) (ch := []) un hok bare (fun b z => absurd z (by simp)), r, q⟩
end
/-- f(..): the written arguments, then the defaults dvs; E: what is wanted of an exception -/
def tCall (sp : Sp) (dvs : List V) (E : XK) (t : TA) : TE := fun σ H Q => t σ H fun vs H1 => sp (vs ++ dvs) H1 Q E
/-- o.m(..) of an instance of the class at C -/
def tMeth (C : Addr) (m : Str) (sp : Sp) (dvs : List V) (E : XK) (ta : TE) (t : TA) : TE := fun σ H Q => ta σ H fun x H1 => ∃ a dx fs, x = .ref a ∧ H1 a = some (.ins C dx fs) ∧ fs.lookup m = none ∧
  t σ H1 fun vs H2 => sp (x :: (vs ++ dvs)) H2 Q E
/-- C(..): a new instance and its dict, then __init__ -/
def tMake (C : Addr) (sp : Sp) (dvs : List V) (E : XK) (t : TA) : TE := fun σ H Q => t σ H fun vs H1 => ∀ x dx, H1 x = none → H1 dx = none → dx ≠ x →
  sp (.ref x :: (vs ++ dvs)) (upd (upd H1 dx (.own x)) x (.ins C dx [])) (fun v H2 => v = .non ∧ Q (.ref x) H2) E
/-- how the parameters are bound: us the positional arguments, kw the keywords' values by name, ds the defaults that fill up -/
def Binds (K : PySem.W.Frag) (fd : FuncData) (ps : List Str) (ds : List Value) : Prop :=
  ∀ (s : Shared) (us : List Value), K.In s.heap → (us ++ ds).length = ps.length → BindsTo s fd ⟨us, []⟩ (ps.zip (us ++ ds))
/-- every parameter is given -/
theorem Binds.all {K : PySem.W.Frag} {fd : FuncData} {ps : List Str} (h : ∀ us : List Value, us.length = ps.length → bindArgs fd ⟨us, []⟩ = pure (ps.zip us)) : Binds K fd ps [] := fun s us _ hl => by
  rw [List.append_nil] at hl ⊢
  exact .of_eq (h us hl)
/-- an exception of a callee reaches what this body wants of exceptions -/
def Passes (CX : CXT) (X : Cx) (E : XK) : Prop := ∀ (pins : List (Addr × Obj)) (σ : St) (H : Hp) (s : Shared) (e : Value) (s' : Shared), Inv X pins σ H s → CX X.stack H s E e s' → X.xe e s'
section
variable {X : Cx} {CX : CXT} {k : Nat} {f C : Addr} {fd : FuncData} {ps : List Str} {sp : Sp} {dvs : List V} {ds : List Value} {E : XK} {x m : Str} {p pos apos : Pos} {e o : Expr} {es : List Expr} {ta : TE} {t : TA}
/-- the callee runs -/
theorem run_fn {pins : List (Addr × Obj)} {σ : St} {H : Hp} {s : Shared} {Q : VK} {us : List Value} {vs : List V} (F : FnOk X.prog X.w X.K X.mg X.base CX k f fd ps sp) (hr : Room k X.A) (hb : Binds X.K fd ps ds) (hd : Vals dvs ds) (hx : Passes CX X E)
    (I : Inv X pins σ H s) (r : Vals vs us) (h : sp (vs ++ dvs) H Q E) : wpAny (model X.prog X.w) X.A (call (.ref f) us) (EP X pins σ Q) X.xe s := by
  have r2 : Vals (vs ++ dvs) (us ++ ds) := r.append hd
  have hl : (us ++ ds).length = ps.length := by rw [← r2.length]; exact F.len _ _ _ _ h
  refine wpAny_call (codeAny_mono (F.run X.A X.stack s H ⟨us, []⟩ (us ++ ds) (vs ++ dvs) Q E hr I.env0 (hb s us I.kIn hl) r2 h) fun r s' hq => ?_)
  cases r with
  | error e => exact hx pins σ H s e s' I hq
  | ok fl =>
    cases fl with
    | ret u => exact I.after hq
    | next => exact False.elim hq
    | brk => exact False.elim hq
    | cont => exact False.elim hq
theorem pe_call (F : FnOk X.prog X.w X.K X.mg X.base CX k f fd ps sp) (hr : Room k X.A) (hg : Gl X x) (hm : X.mg x = some (.ref f)) (hk : PySem.W.keepIn X.K (.ref f) = true) (hb : Binds X.K fd ps ds) (hd : Vals dvs ds) (hx : Passes CX X E)
    (ha : PA X (e :: es) t) (hdb : (x == ("__debug__" : Str)) = false := by decide) (he : starEach (e :: es) X.env = (false, eval e X.env) :: starEach es X.env := by rfl) (hpl : (backTo pos (starEach es X.env)).any (·.1) = false := by rfl) :
    PE X (.Call (.Name x p) (e :: es) [] pos) (tCall sp dvs E t) := by
  intro pins s σ H Q I h
  refine wpAny_Call_Name_kw (ld_glob I hg hm ?_ hdb)
  refine PySem.W.callWith_K (h₀ := X.base) I.ok.mod.kin hk (thn (ha pos pins s σ H _ I h) fun us s1 ⟨vs, H1, I1, r, q⟩ => ⟨I1.kIn, ?_⟩) he hpl
  exact run_fn F hr hb hd hx I1 r q
/-- o.m(e, ..) -/
theorem pe_meth {pl : Sem Bool} (he : PE X o ta) (c : Cls X.K C) (hm : Meth X.K C m f) (F : FnOk X.prog X.w X.K X.mg X.base CX k f fd ps sp) (hr : Room k X.A) (hb : Binds X.K fd ps ds) (hd : Vals dvs ds) (hx : Passes CX X E) (ha : PA X (e :: es) t)
    (hst : starEach (e :: es) X.env = (false, eval e X.env) :: starEach es X.env := by rfl) (hpl : (backTo pos (starEach es X.env)).any (·.1) = false := by rfl)
    (ht : eval (.Call (.Attribute o m apos) (e :: es) [] pos) X.env = (do
      let ov ← eval o X.env
      standAt apos.atName
      let (f, first) ← holding [ov] (getMethod ov m pl)
      callWith pos f first (backTo pos (starEach (e :: es) X.env)) (backToKw pos (keywordEach [] X.env))) := by rfl) :
    PE X (.Call (.Attribute o m apos) (e :: es) [] pos) (tMeth C m sp dvs E ta t) := by
  intro pins s σ H Q I h
  refine PySem.W.methodCall_KW (pl := pl) (thn (he pins s σ H _ I h) fun u s1 ⟨x, H1, I1, rx, a, dx, fs, ex, ea, l, q⟩ => ?_) ht
  subst ex
  obtain rfl : u = Value.ref a := rx
  refine getmeth_ok I1 ea c hm l ?_
  refine PySem.W.callWith_K (first := [.ref a]) (h₀ := X.base) I.ok.mod.kin hm.kp (thn (ha pos pins s1 σ H1 _ I1 q) fun us s2 ⟨vs, H2, I2, r, q2⟩ => ⟨I2.kIn, ?_⟩) hst hpl
  exact run_fn (us := .ref a :: us) (vs := .ref a :: vs) F hr hb hd hx I2 (.cons rfl r) q2
/-- o.m() -/
theorem pe_meth0 {pl : Sem Bool} (he : PE X o ta) (c : Cls X.K C) (hm : Meth X.K C m f) (F : FnOk X.prog X.w X.K X.mg X.base CX k f fd ps sp) (hr : Room k X.A) (hb : Binds X.K fd ps ds) (hd : Vals dvs ds) (hx : Passes CX X E)
    (ht : eval (.Call (.Attribute o m apos) [] [] pos) X.env = (do
      let ov ← eval o X.env
      standAt apos.atName
      let (f, first) ← holding [ov] (getMethod ov m pl)
      callWith pos f first (backTo pos (starEach [] X.env)) (backToKw pos (keywordEach [] X.env))) := by rfl) :
    PE X (.Call (.Attribute o m apos) [] [] pos) (tMeth C m sp dvs E ta tNil) := by
  intro pins s σ H Q I h
  refine PySem.W.methodCall_KW (pl := pl) (thn (he pins s σ H _ I h) fun u s1 ⟨x, H1, I1, rx, a, dx, fs, ex, ea, l, q⟩ => ?_) ht
  subst ex
  obtain rfl : u = Value.ref a := rx
  refine getmeth_ok I1 ea c hm l ?_
  exact PySem.W.callWith_K0 (first := [.ref a]) I1.kIn hm.kp (run_fn (us := [.ref a]) (vs := [.ref a]) F hr hb hd hx I1 (.cons rfl .nil) q)
/-- what a class must have to be made -/
structure Mk (K : PySem.W.Frag) (C f : Addr) : Prop where
  makes : PySem.W.makesIn K C = true
  init : PySem.W.findIn K (.ref C) "__init__" = some (some (.ref f))
  fn : PySem.W.isFn K (.ref f) = true
  kp : PySem.W.keepIn K (.ref C) = true
theorem run_make {pins : List (Addr × Obj)} {σ : St} {H : Hp} {s : Shared} {Q : VK} {us : List Value} {vs : List V} (M : Mk X.K C f) (F : FnOk X.prog X.w X.K X.mg X.base CX k f fd ps sp) (hr : Room (k + 1) X.A) (hb : Binds X.K fd ps ds) (hd : Vals dvs ds)
    (hx : Passes CX X E) (I : Inv X pins σ H s) (r : Vals vs us)
    (h : ∀ x dx, H x = none → H dx = none → dx ≠ x → sp (.ref x :: (vs ++ dvs)) (upd (upd H dx (.own x)) x (.ins C dx [])) (fun v H2 => v = .non ∧ Q (.ref x) H2) E) :
    wpAny (model X.prog X.w) X.A (call (.ref C) us) (EP X pins σ Q) X.xe s := by
  have hq := h (s.heap.objs.size + 1) s.heap.objs.size (I.hok.fresh (Nat.le_succ _)) (I.hok.fresh (Nat.le_refl _)) (Nat.ne_of_lt (Nat.lt_succ_self _))
  have I2 := Inv.made (C := C) I
  have r2 : Vals (V.ref (s.heap.objs.size + 1) :: (vs ++ dvs)) (Value.ref (s.heap.objs.size + 1) :: (us ++ ds)) := .cons rfl (r.append hd)
  have hl : (Value.ref (s.heap.objs.size + 1) :: us ++ ds).length = ps.length := by
    have e := r2.length
    rw [F.len _ _ _ _ hq] at e
    exact e.symm
  refine wpAny_call (make_map (f := f) I.kIn M.makes M.init (beq_iff_eq.mp M.fn) (codeAny_mono (F.run _ X.stack _ _ ⟨Value.ref (s.heap.objs.size + 1) :: us, []⟩ (Value.ref (s.heap.objs.size + 1) :: (us ++ ds)) _ _ E (hr.make C us [])
    (I2.env0.make C us []) (hb _ (Value.ref (s.heap.objs.size + 1) :: us) I2.kIn hl) r2 hq) fun r s' hq' => ?_))
  cases r with
  | error e => exact hx pins σ _ _ e s' I2 hq'
  | ok fl =>
    cases fl with
    | ret u =>
      obtain ⟨v, H', I3, rv, ev, q3⟩ := I2.after hq'
      subst ev
      exact ⟨rv, ⟨V.ref (s.heap.objs.size + 1), H', I3, rfl, q3⟩⟩
    | next => exact False.elim hq'
    | brk => exact False.elim hq'
    | cont => exact False.elim hq'
theorem pe_make (M : Mk X.K C f) (F : FnOk X.prog X.w X.K X.mg X.base CX k f fd ps sp) (hr : Room (k + 1) X.A) (hg : Gl X x) (hm : X.mg x = some (.ref C)) (hb : Binds X.K fd ps ds) (hd : Vals dvs ds) (hx : Passes CX X E)
    (ha : PA X (e :: es) t) (hdb : (x == ("__debug__" : Str)) = false := by decide) (he : starEach (e :: es) X.env = (false, eval e X.env) :: starEach es X.env := by rfl) (hpl : (backTo pos (starEach es X.env)).any (·.1) = false := by rfl) :
    PE X (.Call (.Name x p) (e :: es) [] pos) (tMake C sp dvs E t) := by
  intro pins s σ H Q I h
  refine wpAny_Call_Name_kw (ld_glob I hg hm ?_ hdb)
  refine PySem.W.callWith_K (h₀ := X.base) I.ok.mod.kin M.kp (thn (ha pos pins s σ H _ I h) fun us s1 ⟨vs, H1, I1, r, q⟩ => ⟨I1.kIn, ?_⟩) he hpl
  exact run_make M F hr hb hd hx I1 r q
theorem pe_make0 (M : Mk X.K C f) (F : FnOk X.prog X.w X.K X.mg X.base CX k f fd ps sp) (hr : Room (k + 1) X.A) (hg : Gl X x) (hm : X.mg x = some (.ref C)) (hb : Binds X.K fd ps ds) (hd : Vals dvs ds) (hx : Passes CX X E)
    (hdb : (x == ("__debug__" : Str)) = false := by decide) : PE X (.Call (.Name x p) [] [] pos) (tMake C sp dvs E tNil) := by
  intro pins s σ H Q I h
  refine wpAny_Call_Name_kw (ld_glob I hg hm ?_ hdb)
  exact PySem.W.callWith_K0 I.kIn M.kp (run_make (us := []) M F hr hb hd hx I .nil h)
end
section
variable {X : Cx} {CX : CXT} {k : Nat} {f C : Addr} {fd : FuncData} {ps ks : List Str} {sp : Sp} {E : XK} {x m : Str} {p pos apos kpos : Pos} {e o : Expr} {es : List Expr} {kws : List Keyword} {te ta : TE} {t tk : TA} {nm : Option Str}
variable {g : List Value → List Value → List Value} {gV : List V → List V → List V}
end
/-- names: the parameters first -/
structure FnScope (N P : List Str) (sc : Scope) : Prop where
  kind : sc.kind = .function
  co : sc.isCoroutine = false
  gen : sc.isGenerator = false
  nd : N.Nodup
  pre : N.take P.length = P
  par : ∀ x ∈ P, sc.names.lookup x = some .local ∨ sc.names.lookup x = some .cell
  nofree : ∀ y ∈ sc.names, y.2 ≠ .free
theorem bindL_out {kindOf : Str → Option NameKind} {x : Str} : ∀ {binds : List (Str × Value)} {m : Str → Option Value}, (∀ v, (x, v) ∉ binds) → bindL kindOf binds m x = m x
  | [], _, _ => rfl
  | (n, v) :: r, m, h => by
    unfold bindL
    rw [bindL_out fun w hw => h w (List.mem_cons_of_mem _ hw)]
    split
    · have : x ≠ n := by rintro rfl; exact h v List.mem_cons_self
      simp [this]
    · rfl
theorem bindC_out {kindOf : Str → Option NameKind} {x : Str} : ∀ {binds : List (Str × Value)} {m : Str → Option Value}, (∀ v, (x, v) ∉ binds) → bindC kindOf binds m x = m x
  | [], _, _ => rfl
  | (n, v) :: r, m, h => by
    unfold bindC
    rw [bindC_out fun w hw => h w (List.mem_cons_of_mem _ hw)]
    split
    · rfl
    · have : x ≠ n := by rintro rfl; exact h v List.mem_cons_self
      simp [this]
theorem bindL_get {kindOf : Str → Option NameKind} {x : Str} {v : Value} : ∀ {P : List Str} {vs : List Value} {i : Nat} {m : Str → Option Value}, P.Nodup → P[i]? = some x → vs[i]? = some v → kindOf x = some .local →
    bindL kindOf (P.zip vs) m x = some v
  | [], _, _, _, _, h, _, _ => by simp at h
  | _ :: _, [], _, _, _, _, h, _ => by simp at h
  | p :: P, w :: vs, 0, m, nd, h1, h2, hk => by
    simp at h1 h2; subst h1; subst h2
    show bindL kindOf ((p, w) :: P.zip vs) m p = _
    unfold bindL
    rw [bindL_out fun v hv => (List.nodup_cons.mp nd).1 (List.of_mem_zip hv).1, if_pos hk]
    simp
  | p :: P, w :: vs, i + 1, m, nd, h1, h2, hk => by
    show bindL kindOf ((p, w) :: P.zip vs) m x = _
    unfold bindL
    exact bindL_get (i := i) (List.nodup_cons.mp nd).2 (by simpa using h1) (by simpa using h2) hk
theorem bindC_get {kindOf : Str → Option NameKind} {x : Str} {v : Value} : ∀ {P : List Str} {vs : List Value} {i : Nat} {m : Str → Option Value}, P.Nodup → P[i]? = some x → vs[i]? = some v → kindOf x ≠ some .local →
    bindC kindOf (P.zip vs) m x = some v
  | [], _, _, _, _, h, _, _ => by simp at h
  | _ :: _, [], _, _, _, _, h, _ => by simp at h
  | p :: P, w :: vs, 0, m, nd, h1, h2, hk => by
    simp at h1 h2; subst h1; subst h2
    show bindC kindOf ((p, w) :: P.zip vs) m p = _
    unfold bindC
    rw [bindC_out fun v hv => (List.nodup_cons.mp nd).1 (List.of_mem_zip hv).1, if_neg hk]
    simp
  | p :: P, w :: vs, i + 1, m, nd, h1, h2, hk => by
    show bindC kindOf ((p, w) :: P.zip vs) m x = _
    unfold bindC
    exact bindC_get (i := i) (List.nodup_cons.mp nd).2 (by simpa using h1) (by simpa using h2) hk
/-- the names' values at the entry -/
def start (N : List Str) (vs : List V) : St := vs.map some ++ List.replicate (N.length - vs.length) none
/-- the context of a def's body, at its entry; an exception leaves the frame, then lies as CX says -/
def cxOf (CX : CXT) (P : Program) (w : World) (K : PySem.W.Frag) (mg : Str → Option Value) (base : Heap) (N : List Str) (qual : Str) (scope : Scope) (f : Addr) (cd : Value) (A : Around) (outer : List Env) (s : Shared) (H : Hp) (E : XK) : Cx where
  prog := P
  w := w
  K := K
  mg := mg
  base := base
  A := A.deeper (envOfC qual scope s.heap.objs.size f cd)
  N := N
  s_0 := s
  H_0 := H
  env := envOfC qual scope s.heap.objs.size f cd
  outer := outer
  stack := envOfC qual scope s.heap.objs.size f cd :: outer
  ex := []
  calm := true
  fn := fun _ => true
  pn := []
  xe := fun e s' => wpAny (model P w) (A.deeper (envOfC qual scope s.heap.objs.size f cd)) (leaving (envOfC qual scope s.heap.objs.size f cd) e) (fun _ s'' => CX outer H s E e s'') (fun e' s'' => CX outer H s E e' s'') s'
theorem cell_has {sc : Scope} {n : Nat} {x : Str} (h : sc.names.lookup x = some .cell) : ∃ c, (cellsFrom n sc.names []).lookup x = some c := by
  have q := PySem.W.cellsFrom_some sc.names n [] (.inl h)
  exact Option.isSome_iff_exists.mp q
theorem inv_start {CX : CXT} {P : Program} {w : World} {K : PySem.W.Frag} {mg : Str → Option Value} {base : Heap} {N ps : List Str} {qual : Str} {scope : Scope} {f : Addr} {cd : Value} {A : Around} {outer : List Env} {s s1 : Shared} {H : Hp} {E : XK} {us : List Value} {vs : List V}
    (S : FnScope N ps scope) (hd : A.handled = none) (e0 : Env0 P w K mg base A outer s H) (hl : vs.length = ps.length) (r : Vals vs us)
    (x : InCallC s s.heap.objs.size (bindL (envOfC qual scope s.heap.objs.size f cd).kindOf (ps.zip us) fun _ => none) (cellsFrom (s.heap.objs.size + 1) scope.names []) (bindC (envOfC qual scope s.heap.objs.size f cd).kindOf (ps.zip us) fun _ => none) s1) :
    Inv (cxOf CX P w K mg base N qual scope f cd A outer s H E) [] (start N vs) H s1 := by
  have hpl : ps.length ≤ N.length := by have := congrArg List.length S.pre; rw [List.length_take] at this; omega
  obtain ⟨h1, tk, rfl, hk⟩ := x.done
  have noA : ∀ b : Addr, b ∉ (cxOf CX P w K mg base N qual scope f cd A outer s H E).ex := fun b z => absurd (show b ∈ ([] : List Addr) from z) (by simp)
  refine ⟨⟨e0.mod, S.kind, rfl, rfl, Nat.le_refl _, fun y z c h1 h2 => ?_, fun y hy => ?_, fun y c _ h => ?_, fun _ => hd, Around.frames_deeper e0.frames, .inr ⟨rfl, rfl⟩, fun b z => absurd z (noA b), e0.bs, e0.bsz, fun b _ _ => noA b, fun b z => absurd z (noA b), e0.funs, e0.frf⟩,
    rfl, e0.bare, Un.kept hk, ⟨_, x.toInCall.ns, fun i y v h1 h2 h3 => ?_⟩, fun y c h => ⟨_, x.cell y c h⟩, e0.hok.fresh (Nat.le_refl _), fun y c h => ?_, fun p hp => absurd (show p ∈ ([] : List (Addr × Obj)) from hp) (by simp), e0.hok.kept hk, ?_⟩
  · exact name_of_addr x.apart (PySem.mem_of_lookup h1) (PySem.mem_of_lookup h2)
  · have hy : scope.names.lookup y = some .cell ∨ scope.names.lookup y = some .free := hy
    rcases hy with hy | hy
    · exact cell_has hy
    · exact absurd rfl (S.nofree _ (PySem.mem_of_lookup hy))
  · exact Nat.le_of_lt (x.above y c (PySem.mem_of_lookup h))
  · have hi : i < vs.length := by
      unfold start at h2
      by_cases hi : i < vs.length
      · exact hi
      · rw [List.getElem?_append_right (by simpa using hi)] at h2
        rw [List.getElem?_replicate] at h2
        split at h2 <;> cases h2
    have ha : vs[i]? = some v := by
      unfold start at h2
      rw [List.getElem?_append_left (by simpa using hi), List.getElem?_map] at h2
      cases e : vs[i]? with
      | none => rw [e] at h2; cases h2
      | some a => rw [e] at h2; cases h2; rfl
    obtain ⟨u, hu, rv⟩ := r.get ha
    have hp : ps[i]? = some y := by
      rw [← S.pre, List.getElem?_take_of_lt (by omega)]; exact h1
    have ndP : ps.Nodup := by rw [← S.pre]; exact S.nd.sublist (List.take_sublist _ _)
    refine ⟨u, rv, ?_⟩
    rcases S.par y (List.mem_of_getElem? hp) with k | k
    · exact .inl ⟨k, bindL_get ndP hp hu k⟩
    · obtain ⟨c, e⟩ := cell_has (n := s.heap.objs.size + 1) k
      refine .inr ⟨.inl k, c, e, ?_⟩
      have q := x.cell y c e
      rw [bindC_get ndP hp hu (by show scope.names.lookup y ≠ _; rw [k]; decide)] at q
      exact q
  · exact e0.hok.fresh (Nat.le_of_lt (x.above y c (PySem.mem_of_lookup h)))
  · unfold start
    show _ = N.length
    rw [List.length_append, List.length_map, List.length_replicate]
    omega
/-- THE RULE: a def (or a method) of the text, by its body. The body's reading t is chosen for each entry; it is run at the parameters' values -/
theorem fn_of {CX : CXT} {P : Program} {w : World} {K : PySem.W.Frag} {mg : Str → Option Value} {base : Heap} {k : Nat} {f : Addr} {name qual : Str} {params : Arguments} {body : List Stmt} {scope : Scope} {dV kV doc pm cdv ct oc : Value} {an od : Option Addr}
    {osl : Array (Option Value)} {N ps : List Str} {sp : Sp} (lk : K.lookup f = some ⟨oc, od, .func (PySem.W.fnOf name qual params body scope dV kV doc pm an cdv ct), osl⟩) (hcd : PySem.W.codeIn K cdv qual = true) (S : FnScope N ps scope)
    (len : ∀ vs H Q E, sp vs H Q E → vs.length = ps.length)
    (hbody : ∀ (A : Around) (outer : List Env) (s : Shared) (H : Hp) (vs : List V) (Q : VK) (E : XK), Room k (A.deeper (envOfC qual scope s.heap.objs.size f cdv)) → sp vs H Q E →
      ∃ t, PSs (cxOf CX P w K mg base N qual scope f cdv A outer s H E) body t ∧ t { nx := fun _ H' => Q .non H', rt := Q } (start N vs) H) :
    FnOk P w K mg base CX (k + 1) f (PySem.W.fnOf name qual params body scope dV kV doc pm an cdv ct) ps sp := by
  refine ⟨len, fun A outer s H args us vs Q E hr e0 hb r hsp => ?_⟩
  have hl := len _ _ _ _ hsp
  have KX : K.In s.heap := e0.mod.kin.keeps fun b o e => (e0.bs b o e).1
  have lim : s.heap.NoLimit := e0.mod.nolimit.keeps fun b o e => (e0.bs b o e).1
  have hkind : ∀ y ∈ ps.zip us, scope.names.lookup y.1 = some .local ∨ (scope.names.lookup y.1 = some .cell ∧ ((cellsFrom (s.heap.objs.size + 1) scope.names []).lookup y.1).isSome = true) := fun ⟨n, v⟩ hy => by
    rcases S.par n (List.of_mem_zip hy).1 with q | q
    · exact .inl q
    · exact .inr ⟨q, PySem.W.cellsFrom_some _ _ _ (.inl q)⟩
  refine codeAny_call_function hr.depth (KX _ _ lk) rfl S.co S.gen rfl (PySem.W.codeRec_of KX hcd) (hb _ _ _ _ ?_)
  refine wpAny_newFunctionEnv_cells S.kind hkind fun env he s1 x => ?_
  subst he
  refine ⟨lim.keeps x.toInCall.keep, codeAny_func ?_⟩
  obtain ⟨t, ht, hq⟩ := hbody A outer s H vs Q E (hr.deeper _) hsp
  have I : Inv (cxOf CX P w K mg base N qual scope f cdv A outer s H E) [] (start N vs) H s1 := inv_start S hr.hd e0 hl r x
  refine wpAny_mono (ht [] s1 (start N vs) H _ I hq) (fun fl s' hs => ?_) fun e s' hs => hs
  have fin : ∀ {σ' : St} {H' : Hp} {v : V} {u : Value}, Inv (cxOf CX P w K mg base N qual scope f cdv A outer s H E) [] σ' H' s' → RelV v u → Q v H' → CE outer P w H s Q u s' :=
    fun {σ' H' v u} J rv q => ⟨v, H', J.os, J.bare, J.base, J.hok, rv, q⟩
  cases fl with
  | ret u =>
    obtain ⟨v, σ', H', J, rv, q⟩ := hs
    exact fin J rv q
  | next =>
    obtain ⟨σ', H', J, q⟩ := hs
    exact fin (v := V.non) (u := Value.none) J rfl q
  | brk =>
    obtain ⟨_, _, _, q⟩ := hs
    exact False.elim q
  | cont =>
    obtain ⟨_, _, _, q⟩ := hs
    exact False.elim q
end L2
namespace L2
open PySem PySem.Spec PyProof.Rows
section
variable {X : Cx} {x : Str} {p pos : Pos} {e : Expr} {es : List Expr} {t : TA} {id T : String} {r : List V → Hp → VK → Prop}
def tCB (r : List V → Hp → VK → Prop) (t : TA) : TE := fun σ H Q => t σ H fun vs H1 => r vs H1 Q
/-- f(e, ..), f a built-in function -/
theorem pe_callB (hc : CallR X (.builtin id) r) (hg : Gl X x) (hm : X.mg x = none) (hv : bootBuiltins x = some (.builtin id)) (ha : PA X (e :: es) t) (hn : x ≠ "__name__" := by decide) (hdb : (x == ("__debug__" : Str)) = false := by decide)
    (he : starEach (e :: es) X.env = (false, eval e X.env) :: starEach es X.env := by rfl) (hpl : (backTo pos (starEach es X.env)).any (·.1) = false := by rfl) : PE X (.Call (.Name x p) (e :: es) [] pos) (tCB r t) := by
  intro pins s σ H Q I h
  refine wpAny_Call_Name_kw (ld_blt I hg hm hv ?_ hn hdb)
  exact PyProof.Rows.callWith_builtin1 (thn (ha pos pins s σ H _ I h) fun us s1 ⟨vs, H1, I1, r1, q1⟩ => hc pins s1 σ H1 vs us Q I1 r1 q1) he hpl
/-- T(e, ..), T a built-in type -/
theorem pe_callTy (hc : CallR X (.type T) r) (hg : Gl X x) (hm : X.mg x = none) (hv : bootBuiltins x = some (.type T)) (ha : PA X (e :: es) t) (hn : x ≠ "__name__" := by decide) (hdb : (x == ("__debug__" : Str)) = false := by decide)
    (he : starEach (e :: es) X.env = (false, eval e X.env) :: starEach es X.env := by rfl) (hpl : (backTo pos (starEach es X.env)).any (·.1) = false := by rfl) : PE X (.Call (.Name x p) (e :: es) [] pos) (tCB r t) := by
  intro pins s σ H Q I h
  refine wpAny_Call_Name_kw (ld_blt I hg hm hv ?_ hn hdb)
  exact PyProof.Rows.callWith_type1 (thn (ha pos pins s σ H _ I h) fun us s1 ⟨vs, H1, I1, r1, q1⟩ => hc pins s1 σ H1 vs us Q I1 r1 q1) he hpl
end
end L2
namespace HT
open PySem PyProof.Rows
section
open PySem.SeqAt
open PySem.AutoSeq1 (wpAny_loadPart')
open PySem.MeetsSeq PySem.MeetsSeq2 PySem.MeetsSeq3
end
section
variable {prog : Program} {w : World} {A : Around} {E : Value → Shared → Prop} {s : Shared}
/-- t + u, t not empty -/
theorem cat_tup {t b : Addr} {vs ws : List Value} {Q : Value → Shared → Prop} (ht : IsTup s.heap t vs.toArray) (hb : IsTup s.heap b ws.toArray) (hv : vs ≠ [])
    (h1 : ws = [] → Q (.ref t) s) (h2 : ws ≠ [] → Q (.ref s.heap.objs.size) { s with heap := s.heap.push { cls := .type "tuple", data := .seq (vs ++ ws).toArray } })
    (hsz : vs.length + ws.length ≤ sizeLine) : wpAny (model prog w) A (binaryOp .Add (.ref t) (.ref b)) Q E s := by
  obtain ⟨⟨cls, dd, data, sl⟩, ho, hc, n, hd⟩ := id ht
  obtain ⟨⟨cls2, dd2, data2, sl2⟩, ho2, hc2, n2, hd2⟩ := id hb
  simp only at hc hd hc2 hd2
  subst hc hd hc2 hd2
  have e : vs.toArray ++ ws.toArray = (vs ++ ws).toArray := by simp
  by_cases hw : ws = []
  · exact concat_meets ⟨_, ho, rfl⟩ ⟨_, ho2, rfl⟩ noFill_tuple_add seq_tuple_add PySem.F.slot_tuple_add PySem.F.entry_tuple_add (PySem.F.args_tuple_add_2 _ _)
      (tuple_addW1 t b vs.toArray ws.toArray n n2 dd dd2 sl sl2 (by simpa using hv) (by simp [hw])) ⟨ho, ho2, h1 hw⟩
  · refine concat_meets ⟨_, ho, rfl⟩ ⟨_, ho2, rfl⟩ noFill_tuple_add seq_tuple_add PySem.F.slot_tuple_add PySem.F.entry_tuple_add (PySem.F.args_tuple_add_2 _ _)
      (tuple_addW2 t b vs.toArray ws.toArray n n2 dd dd2 sl sl2 (by simpa using hv) (by simpa using hw) (by rw [List.size_toArray, List.size_toArray]; exact hsz)) ⟨ho, ho2, ?_⟩
    rw [e]
    exact h2 hw
/-- a slice's bound as a place among n (d where it is left out) -/
def sIx (n d : Nat) : Option Int → Nat
  | none => d
  | some v => if v < 0 then (v + (n : Int)).toNat else min v.toNat n
theorem sIx_none (n d : Nat) : sIx n d none = d := rfl
theorem sIx_nat (n d k : Nat) : sIx n d (some (k : Int)) = min k n := by
  show (if (k : Int) < 0 then ((k : Int) + (n : Int)).toNat else min (k : Int).toNat n) = min k n
  rw [if_neg (by omega), Int.toNat_natCast]
theorem sIx_le (n d : Nat) (hd : d ≤ n) (o : Option Int) : sIx n d o ≤ n := by
  cases o with
  | none => exact hd
  | some v =>
    show (if v < 0 then (v + (n : Int)).toNat else min v.toNat n) ≤ n
    by_cases hv : v < 0
    · rw [if_pos hv]; omega
    · rw [if_neg hv]; exact Nat.min_le_right _ _
theorem clip_eq (v : Int) (n d : Nat) : (if v < 0 then max (v + (n : Int)) 0 else min v (n : Int)) = ((sIx n d (some v) : Nat) : Int) := by
  show (if v < 0 then max (v + (n : Int)) 0 else min v (n : Int)) = (((if v < 0 then (v + (n : Int)).toNat else min v.toNat n) : Nat) : Int)
  by_cases hv : v < 0
  · simp only [if_pos hv]; omega
  · simp only [if_neg hv]; omega
theorem adjust_gen (lo hi : Option Int) (n : Nat) : Builtin.Slice.sliceAdjust lo hi 1 (n : Int) = (((sIx n 0 lo : Nat) : Int), ((sIx n n hi : Nat) : Int)) := by
  have h1 : ¬ ((1 : Int) < 0) := by omega
  unfold Builtin.Slice.sliceAdjust
  simp only [h1, if_false]
  refine Prod.ext ?_ ?_
  · cases lo with
    | none => rfl
    | some v => exact clip_eq v n 0
  · cases hi with
    | none => rfl
    | some v => exact clip_eq v n n
theorem places_gen (i j : Nat) : Builtin.Slice.slicePlaces (i : Int) (j : Int) 1 = j - i := by
  unfold Builtin.Slice.slicePlaces
  have h1 : (1 : Int) > 0 := by omega
  simp only [h1, if_true, Int.ediv_one]
  split <;> omega
theorem slicePart_ {v : Value} {o : Option Int} {Q : Option Int → Shared → Prop} (p : IsPart v o) (h : Q o s) : wpAny (model prog w) A (Builtin.Slice.slicePartIndex v) Q E s := by
  cases p with
  | none => exact slicePart_none h
  | int i t => exact slicePart_int h
theorem sliceApplied_gen {sl : Addr} {vl vu : Value} {lo hi : Option Int} {n : Nat} {Q : Int × Int × Nat → Shared → Prop} (hs : s.heap.IsSliceOf sl vl vu .none) (pl : IsPart vl lo) (pu : IsPart vu hi)
    (h : Q (((sIx n 0 lo : Nat) : Int), 1, sIx n n hi - sIx n 0 lo) s) : wpAny (model prog w) A (Builtin.Slice.sliceApplied (.ref sl) (pure (n : Int))) Q E s := by
  obtain ⟨os, hos, hcs, hds⟩ := id hs
  unfold Builtin.Slice.sliceApplied Builtin.Slice.sliceFields
  refine wpAny_bind (wpAny_bind (wpAny_field hos hds (x := vl) rfl (wpAny_bind (wpAny_field hos hds (x := vu) rfl (wpAny_bind (wpAny_field hos hds (x := .none) rfl (wpAny_pure ?_)))))))
  refine wpAny_bind (slicePart_none ?_)
  show wpAny _ _ (if ((1 : Int) == 0) = true then _ else _) _ _ s
  rw [if_neg (by decide)]
  refine wpAny_bind (slicePart_ pl (wpAny_bind (slicePart_ pu (wpAny_bind (wpAny_pure ?_)))))
  show wpAny _ _ (match Builtin.Slice.sliceAdjust lo hi 1 (n : Int) with | (lo, hi) => pure (lo, (1 : Int), Builtin.Slice.slicePlaces lo hi 1)) _ _ s
  rw [adjust_gen lo hi n]
  show wpAny _ _ (pure (((sIx n 0 lo : Nat) : Int), (1 : Int), Builtin.Slice.slicePlaces ((sIx n 0 lo : Nat) : Int) ((sIx n n hi : Nat) : Int) 1)) _ _ s
  rw [places_gen]
  exact wpAny_pure h
theorem pick_gen (xs : Array Value) (i k : Nat) : ((List.range k).filterMap fun (m : Nat) => xs[((i : Int) + (m : Int) * 1).toNat]?).toArray = ((xs.toList.drop i).take k).toArray := by
  have e : (fun (m : Nat) => xs[((i : Int) + (m : Int) * 1).toNat]?) = fun m => xs[i + m]? := by
    funext m
    have : ((i : Int) + (m : Int) * 1).toNat = i + m := by omega
    rw [this]
  rw [e]
  have := pick_run xs i k
  rw [List.filterMap_map] at this
  have e2 : ((fun x => xs[x]?) ∘ fun x => i + x) = fun m => xs[i + m]? := rfl
  rw [e2] at this
  rw [this]
theorem getItem_tuple_cut {t sl : Addr} {items : Array Value} {vl vu : Value} {lo hi : Option Int} {Q : Value → Shared → Prop} (ht : IsTup s.heap t items) (hs : s.heap.IsSliceOf sl vl vu .none) (pl : IsPart vl lo) (pu : IsPart vu hi)
    (hw : ¬ (sIx items.size 0 lo = 0 ∧ sIx items.size items.size hi = items.size))
    (h : Q (.ref s.heap.objs.size) { s with heap := s.heap.push { cls := .type "tuple", data := .seq ((items.toList.drop (sIx items.size 0 lo)).take (sIx items.size items.size hi - sIx items.size 0 lo)).toArray } })
    (hsz : items.size ≤ sizeLine) : wpAny (model prog w) A (getItem (.ref t) (.ref sl)) Q E s := by
  have htake : sizeOk (.seq ((items.toList.drop (sIx items.size 0 lo)).take (sIx items.size items.size hi - sIx items.size 0 lo)).toArray) := by
    show ((items.toList.drop (sIx items.size 0 lo)).take (sIx items.size items.size hi - sIx items.size 0 lo)).toArray.size ≤ sizeLine
    rw [List.size_toArray, List.length_take, List.length_drop, Array.length_toList]
    omega
  have hj : sIx items.size items.size hi ≤ items.size := sIx_le _ _ (Nat.le_refl _) hi
  obtain ⟨os, hos, hcs, hds⟩ := id hs
  have hTs : s.TypeIs (.ref sl) "slice" := ⟨os, hos, hcs⟩
  unfold getItem
  try with_reducible refine wpAny_holding ?_
  first | refine wpAny_bind (wpAny_pure ?_) | skip
  refine wpAny_bind (wpAny_sequenceKey ht.typeIs (by decide) ?_)
  refine wpAny_bind (wpAny_callSpecial?_slot (name := Str.ofString "__getitem__") ht.typeIs PyProof.Rows.slot_tuple_getitem
    (wpAny_call_entry PyProof.Rows.slot_tuple_getitem ht.typeIs entry_tuple_getitem ?_ (args_tuple_getitem _ _)))
  show wpAny _ _ (Builtin.Tuple.tupleItemsOf (.ref t) >>= _) _ _ s
  refine wpAny_bind (tupleItemsOf_ ht ?_)
  refine wpAny_bind (wpAny_typeOf hTs ?_)
  rw [if_pos (by decide)]
  refine wpAny_bind (sliceApplied_gen hs pl pu ?_)
  have hno : ¬ ((((sIx items.size 0 lo : Nat) : Int) == 0 && (1 : Int) == 1 && (sIx items.size items.size hi - sIx items.size 0 lo) == items.size) = true) := by
    intro q
    rw [Bool.and_eq_true, Bool.and_eq_true] at q
    have q1 : ((sIx items.size 0 lo : Nat) : Int) = 0 := eq_of_beq q.1.1
    have q2 : sIx items.size items.size hi - sIx items.size 0 lo = items.size := eq_of_beq q.2
    exact hw ⟨by omega, by omega⟩
  show wpAny _ _ (if (((sIx items.size 0 lo : Nat) : Int) == 0 && (1 : Int) == 1 && (sIx items.size items.size hi - sIx items.size 0 lo) == items.size) = true then _ else _) _ _ s
  rw [if_neg hno, pick_gen]
  first
    | exact wpAny_bind (m := Builtin.Tuple.tupleExact _) (wpAny_newObj_type (wpAny_pure ⟨_, rfl, wpAny_pure h⟩) htake)
    | exact wpAny_bind (m := Builtin.Tuple.tupleExact _) (wpAny_newObj_type (wpAny_bind (wpAny_pure (wpAny_pure ⟨_, rfl, wpAny_pure h⟩))) htake)
    | exact wpAny_bind (wpAny_bind (m := Builtin.Tuple.tupleExact _) (wpAny_newObj_type (wpAny_pure (wpAny_pure ⟨_, rfl, wpAny_pure h⟩)) htake))
    | exact wpAny_bind (wpAny_bind (m := Builtin.Tuple.tupleExact _) (wpAny_newObj_type (wpAny_pure ⟨_, rfl, wpAny_pure h⟩) htake))
end
end HT
namespace L2
open PySem PySem.Spec PyProof.Rows
abbrev TO := St → Hp → (Option Int → Hp → Prop) → Prop
/-- a slice's part (left out, or an int) -/
def PO (X : Cx) (e : Option Expr) (t : TO) : Prop :=
  ∀ (pins : List (Addr × Obj)) (s : Shared) (σ : St) (H : Hp) (Q : Option Int → Hp → Prop), Inv X pins σ H s → t σ H Q →
    wpAny (model X.prog X.w) X.A (evalPart e X.env) (fun u s' => ∃ o H', Inv X pins σ H' s' ∧ IsPart u o ∧ Q o H') X.xe s
def tNoPart : TO := fun _ H Q => Q none H
def tPart (t : TE) : TO := fun σ H Q => t σ H fun x H1 => ∃ i, x = .int i ∧ Q (some i) H1
section
variable {X : Cx} {e : Expr} {te : TE} {lo hi : Option Expr} {tl th : TO} {pos p2 : Pos}
theorem po_none : PO X none tNoPart := by
  intro pins s σ H Q I h
  rw [evalPart_none]
  exact wpAny_pure ⟨none, H, I, .none, h⟩
theorem po_some (h : PE X e te) : PO X (some e) (tPart te) := by
  intro pins s σ H Q I hw
  rw [evalPart_some]
  refine thn (h pins s σ H _ I hw) fun u s1 ⟨x, H1, I1, r1, q1⟩ => ?_
  obtain ⟨i, rfl, q⟩ := q1
  obtain ⟨t, rfl⟩ := r1
  exact ⟨some i, H1, I1, .int i t, q⟩
/-- what a slice of a value is, by values: the slice object stands at sl -/
def SlR (X : Cx) (r : V → Option Int → Option Int → Hp → VK → Prop) : Prop :=
  ∀ (pins : List (Addr × Obj)) (s : Shared) (σ : St) (H : Hp) (x : V) (v vl vu : Value) (lo hi : Option Int) (sl : Addr) (Q : VK), Inv X pins σ H s → RelV x v → s.heap.IsSliceOf sl vl vu .none → IsPart vl lo → IsPart vu hi → r x lo hi H Q →
    ∃ T id, typeLookup (.type T) "__getitem__" = pure (some (.builtin id)) ∧ s.TypeIs v T ∧ wpAny (model X.prog X.w) X.A (getItem v (.ref sl)) (EP X pins σ Q) X.xe s
theorem SlR.or {r r' : V → Option Int → Option Int → Hp → VK → Prop} (h : SlR X r) (h' : SlR X r') : SlR X (fun x lo hi H Q => r x lo hi H Q ∨ r' x lo hi H Q) := by
  intro pins s σ H x v vl vu lo hi sl Q I rx hs pl pu q
  rcases q with q | q
  · exact h pins s σ H x v vl vu lo hi sl Q I rx hs pl pu q
  · exact h' pins s σ H x v vl vu lo hi sl Q I rx hs pl pu q
def tSl (r : V → Option Int → Option Int → Hp → VK → Prop) (te : TE) (tl th : TO) : TE := fun σ H Q => te σ H fun x H1 => tl σ H1 fun l H2 => th σ H2 fun u H3 => r x l u H3 Q
/-- a[lo:hi], any a -/
theorem pe_slice {r : V → Option Int → Option Int → Hp → VK → Prop} (hr : SlR X r) (he : PE X e te) (hl : PO X lo tl) (hu : PO X hi th) : PE X (.Subscript e (.Slice lo hi none p2) pos) (tSl r te tl th) := by
  intro pins s σ H Q I h
  refine Subscript_ (thn (he pins s σ H _ I h) fun v s1 ⟨x, H1, I1, r1, q1⟩ => ?_)
  refine wpAny_Slice (thn (hl pins s1 σ H1 _ I1 q1) fun vl s2 ⟨l, H2, I2, pl, q2⟩ => thn (hu pins s2 σ H2 _ I2 q2) fun vu s3 ⟨u, H3, I3, pu, q3⟩ => ?_)
  rw [evalPart_none]
  refine wpAny_pure ?_
  have I4 : Inv X pins σ H3 { s3 with heap := s3.heap.push { cls := .type "slice", data := .fields #[vl, vu, .none] } } := I3.kept (t' := s3.toks) fun b ob q => Heap.get?_push_of_some _ q
  obtain ⟨T, id, hT, ht, hg⟩ := hr pins { s3 with heap := s3.heap.push { cls := .type "slice", data := .fields #[vl, vu, .none] } } σ H3 x v vl vu l u s3.heap.objs.size Q I4 r1 (Heap.IsSliceOf.new ..) pl pu q3
  show wpAny (model X.prog X.w) X.A (subscriptTail e (.Slice lo hi none p2) v (.ref s3.heap.objs.size)) (EP X pins σ Q) X.xe { s3 with heap := s3.heap.push { cls := .type "slice", data := .fields #[vl, vu, .none] } }
  exact tail_any (ops := [.ref s3.heap.objs.size, v]) ht hT hg (by with_unfolding_all rfl)
/-- the items of xs[lo:hi] -/
def cutV (xs : List V) (lo hi : Option Int) : List V := (xs.drop (HT.sIx xs.length 0 lo)).take (HT.sIx xs.length xs.length hi - HT.sIx xs.length 0 lo)
theorem cutV_length (xs : List V) (lo hi : Option Int) : (cutV xs lo hi).length ≤ xs.length := by
  unfold cutV
  rw [List.length_take, List.length_drop]
  omega
/-- t[lo:hi], not the whole of it (the whole would be t itself) -/
def rSlT (K : PySem.W.Frag) : V → Option Int → Option Int → Hp → VK → Prop := fun x lo hi H Q => ∃ a xs, x = .ref a ∧ SqT K H a xs ∧
  ¬ (HT.sIx xs.length 0 lo = 0 ∧ HT.sIx xs.length xs.length hi = xs.length) ∧ ∀ p, H p = none → Q (.ref p) (upd H p (.tup (cutV xs lo hi)))
theorem sl_tup : SlR X (rSlT X.K) := by
  intro pins s σ H x v vl vu lo hi sl Q I rx hs pl pu h
  obtain ⟨a, xs, rfl, hx, hw, q⟩ := h
  cases rx
  obtain ⟨its, r, ht, hz⟩ := I.tuple hx
  have hlen : its.toArray.size = xs.length := by rw [List.size_toArray]; exact r.length.symm
  refine ⟨"tuple", _, PyProof.Rows.slot_tuple_getitem.lookup, ht.typeIs, ?_⟩
  refine HT.getItem_tuple_cut ht hs pl pu (by rw [hlen]; exact hw) ?_ (by rw [hlen]; exact hz)
  rw [hlen]
  refine ⟨.ref s.heap.objs.size, _, I.laid (t' := s.toks) (o := .tup (cutV xs lo hi)) (fun b ob q => Heap.get?_push_of_some _ q) (Nat.le_refl _) ?_, rfl, q _ (I.hok.fresh (Nat.le_refl _))⟩
  exact ⟨Nat.le_trans (cutV_length xs lo hi) hz, _, (r.drop (HT.sIx xs.length 0 lo)).take (HT.sIx xs.length xs.length hi - HT.sIx xs.length 0 lo), IsTup.new _ _⟩
/-- t + u, t not empty: u empty gives t itself -/
def rCatT (K : PySem.W.Frag) : R2 := fun x y H Q => ∃ a b xs ys, x = .ref a ∧ y = .ref b ∧ SqT K H a xs ∧ SqT K H b ys ∧ xs ≠ [] ∧ xs.length + ys.length ≤ sizeLine ∧
  (ys = [] → Q (.ref a) H) ∧ (ys ≠ [] → ∀ p, H p = none → Q (.ref p) (upd H p (.tup (xs ++ ys))))
theorem Vals.nil_iff {xs : List V} {us : List Value} (r : Vals xs us) : us = [] ↔ xs = [] := by
  cases r with
  | nil => simp
  | cons _ _ => simp
theorem op_catT : OpR X (binaryOp .Add) (rCatT X.K) := by
  intro pins s σ H x y v u Q I rx ry h
  obtain ⟨a, b, xs, ys, rfl, rfl, ha, hb, hx, hz, q1, q2⟩ := h
  cases rx
  cases ry
  obtain ⟨its, r1, p1, _⟩ := I.tuple ha
  obtain ⟨its2, r2, p2, _⟩ := I.tuple hb
  refine HT.cat_tup p1 p2 (fun z => hx (r1.nil_iff.mp z)) (fun z => ⟨.ref a, H, I, rfl, q1 (r2.nil_iff.mp z)⟩) (fun z => ?_) (by rw [← r1.length, ← r2.length]; exact hz)
  refine ⟨.ref s.heap.objs.size, _, I.laid (t' := s.toks) (o := .tup (xs ++ ys)) (fun b ob q => Heap.get?_push_of_some _ q) (Nat.le_refl _) ?_, rfl, q2 (fun w => z (r2.nil_iff.mpr w)) _ (I.hok.fresh (Nat.le_refl _))⟩
  exact ⟨by rw [List.length_append]; exact hz, _, r1.append r2, IsTup.new _ _⟩
end
end L2
namespace L2
open PySem PySem.Spec PyProof.Rows
/-- the place that an index of any sign means -/
def ixN (n : Nat) (i : Int) : Option Nat := if 0 ≤ i then (if i < n then some i.toNat else none) else if -(n : Int) ≤ i then some (i + n).toNat else none
def atI {α : Type} (xs : List α) (i : Int) : Option α := (ixN xs.length i).bind fun j => xs[j]?
theorem ixN_seq {n : Nat} {i : Int} {j : Nat} (h : ixN n i = some j) : seqIndex? i n = some j ∧ j < n ∧ -(n : Int) ≤ i ∧ i < n := by
  unfold ixN at h
  by_cases h0 : 0 ≤ i
  · rw [if_pos h0] at h
    by_cases h1 : i < n
    · rw [if_pos h1] at h
      have e : i.toNat = j := Option.some.inj h
      exact ⟨by rw [seqIndex_of h0 h1, e], by omega, by omega, h1⟩
    · rw [if_neg h1] at h; cases h
  · rw [if_neg h0] at h
    by_cases h1 : -(n : Int) ≤ i
    · rw [if_pos h1] at h
      have e : (i + n).toNat = j := Option.some.inj h
      exact ⟨by rw [seqIndex_neg (by omega) h1, e], by omega, h1, by omega⟩
    · rw [if_neg h1] at h; cases h
theorem atI_get {α : Type} {xs : List α} {i : Int} {v : α} (h : atI xs i = some v) : ∃ j, seqIndex? i xs.length = some j ∧ xs[j]? = some v ∧ j < xs.length ∧ -(xs.length : Int) ≤ i ∧ i < xs.length := by
  unfold atI at h
  cases e : ixN xs.length i with
  | none => rw [e] at h; cases h
  | some j =>
    rw [e] at h
    obtain ⟨h1, h2, h3, h4⟩ := ixN_seq e
    exact ⟨j, h1, h, h2, h3, h4⟩
theorem atI_nat {α : Type} {xs : List α} {j : Nat} {v : α} (h : xs[j]? = some v) : atI xs (j : Int) = some v := by
  have hj : j < xs.length := (List.getElem?_eq_some_iff.mp h).1
  have e : ixN xs.length (j : Int) = some j := by
    unfold ixN
    rw [if_pos (by omega), if_pos (by omega)]; simp
  unfold atI; rw [e]; exact h
/-- what stands as an index of a plain subscript -/
def PlainIx (b : Expr) : Prop := ∀ o i, subscripted b false o i = operate [o, i] (getItem o i)
/-- a subscript by values -/
def IxR (X : Cx) (r : R2) : Prop :=
  ∀ (value slice : Expr) (pins : List (Addr × Obj)) (s : Shared) (σ : St) (H : Hp) (x y : V) (v u : Value) (Q : VK), Inv X pins σ H s → RelV x v → RelV y u → r x y H Q →
    subscripted slice false v u = operate [v, u] (getItem v u) → wpAny (model X.prog X.w) X.A (subscriptTail value slice v u) (EP X pins σ Q) X.xe s
/-- a call of a builtin's method by values: the receiver, the arguments -/
def MtR (X : Cx) (id : String) (r : V → List V → Hp → VK → Prop) : Prop :=
  ∀ (pins : List (Addr × Obj)) (s : Shared) (σ : St) (H : Hp) (x : V) (xs : List V) (v : Value) (us : List Value) (Q : VK), Inv X pins σ H s → RelV x v → Vals xs us → r x xs H Q →
    wpAny (model X.prog X.w) X.A (call (.builtin id) (v :: us)) (EP X pins σ Q) X.xe s
section
variable {X : Cx} {a b : Expr} {ta tb : TE} {pos : Pos}
theorem IxR.or {r r' : R2} (h : IxR X r) (h' : IxR X r') : IxR X (fun x y H Q => r x y H Q ∨ r' x y H Q) := by
  intro value slice pins s σ H x y v u Q I rx ry q hs
  rcases q with q | q
  · exact h value slice pins s σ H x y v u Q I rx ry q hs
  · exact h' value slice pins s σ H x y v u Q I rx ry q hs
theorem MtR.or {id : String} {r r' : V → List V → Hp → VK → Prop} (h : MtR X id r) (h' : MtR X id r') : MtR X id (fun x xs H Q => r x xs H Q ∨ r' x xs H Q) := by
  intro pins s σ H x xs v us Q I rx rs q
  rcases q with q | q
  · exact h pins s σ H x xs v us Q I rx rs q
  · exact h' pins s σ H x xs v us Q I rx rs q
/-- a[b] -/
theorem pe_ix {r : R2} (hr : IxR X r) (ha : PE X a ta) (hb : PE X b tb) (hs : PlainIx b) : PE X (.Subscript a b pos) (tOp r ta tb) := by
  intro pins s σ H Q I h
  exact Subscript_ (binT ha hb I h fun v u s2 x y H2 I2 rx ry q => hr a b pins s2 σ H2 x y v u Q I2 rx ry q (hs _ _))
def rIxL (K : PySem.W.Frag) : R2 := fun x y H Q => ∃ p xs i v, x = .ref p ∧ y = .int i ∧ SqL K H p xs ∧ atI xs i = some v ∧ Q v H
theorem ix_list : IxR X (rIxL X.K) := by
  intro value slice pins s σ H x y v u Q I rx ry h hs
  obtain ⟨p, xs, i, z, rfl, rfl, hq, he, q⟩ := h
  cases rx
  obtain ⟨t, rfl⟩ := ry
  obtain ⟨its, r, pl, hz⟩ := I.list hq
  obtain ⟨j, h1, h2, h3, h4, h5⟩ := atI_get he
  obtain ⟨w, ew, rw'⟩ := r.get h2
  have hl := r.length
  have hn := line63
  have fin : EP X pins σ Q w s := ⟨z, H, I, rw', q⟩
  by_cases h0 : 0 ≤ i
  · have hj : i.toNat = j := by
      rw [seqIndex_of h0 h5] at h1
      exact Option.some.inj h1
    exact item_listR pl.isList h0 (by omega) (by rw [hj]; simpa using ew) fin hs
  · have hj : (i + (its.toArray.size : Int)).toNat = j := by
      rw [seqIndex_neg (by omega) h4] at h1
      rw [List.size_toArray, ← hl]
      exact Option.some.inj h1
    exact subscriptTail_builtinR (x := w) pl.isList.typeIs slot_list_getitem.lookup
      (wpAny_getItem_list_neg (Q := fun r s' => r = w ∧ EP X pins σ Q r s') pl.isList (by omega) (by rw [List.size_toArray] <;> omega) (by omega) (by rw [hj]; simpa using ew) ⟨rfl, fin⟩) hs
/-- the list's object behind a store -/
theorem mapSeq_set (its : List Value) (n j : Nat) (u : Value) : Obj.mapSeq (·.setIfInBounds j u) { cls := .type "list", data := .seq its.toArray n } = { cls := .type "list", data := .seq (its.set j u).toArray n } := by
  simp [Obj.mapSeq]
theorem Inv.lst {pins : List (Addr × Obj)} {σ : St} {H : Hp} {s : Shared} {p : Addr} {xs : List V} (I : Inv X pins σ H s) (h : H p = some (.lst xs)) :
    ∃ (its : List Value) (n : Nat), Vals xs its ∧ s.heap.get? p = some { cls := .type "list", data := .seq its.toArray n } ∧ xs.length ≤ sizeLine := by
  obtain ⟨z, its, n, r, e⟩ := I.hok p _ h
  exact ⟨its, n, r, e, z⟩
/-- the list at p is written by an update of its object -/
theorem Inv.lstUpd {pins : List (Addr × Obj)} {σ : St} {H : Hp} {s : Shared} {p : Addr} {xs ys : List V} {its its' : List Value} {n n' : Nat} {f : Obj → Obj} (I : Inv X pins σ H s) (h : H p = some (.lst xs))
    (ho : s.heap.get? p = some { cls := .type "list", data := .seq its.toArray n }) (hf : f { cls := .type "list", data := .seq its.toArray n } = { cls := .type "list", data := .seq its'.toArray n' }) (r : Vals ys its') (hz : ys.length ≤ sizeLine) (t : Nat) :
    Inv X pins σ (upd H p (.lst ys)) { s with heap := s.heap.update p f, toks := t } := by
  have e : (s.heap.update p f).get? p = some { cls := .type "list", data := .seq its'.toArray n' } := by
    rw [Heap.get?_update_self f ho (by rw [hf] <;> rfl), hf]
  refine I.write (x := p) (e := p) (by rw [h]; trivial) (.inl rfl) (fun b u hb q => (Heap.get?_update_other _ _ (Ne.symm hb)).trans q) ⟨_, e⟩ ?_
  exact ⟨hz, its', n', r, e⟩
def rSetL : V → V → V → Hp → (Hp → Prop) → Prop := fun o i v H Q => ∃ p xs k j, o = .ref p ∧ i = .int k ∧ H p = some (.lst xs) ∧ ixN xs.length k = some j ∧ Q (upd H p (.lst (xs.set j v)))
theorem set_list : PSet X rSetL := by
  intro pins s σ H o i v ov iv u Q I ro ri rv h
  obtain ⟨p, xs, k, j, rfl, rfl, hp, hj, q⟩ := h
  cases ro
  obtain ⟨t, rfl⟩ := ri
  obtain ⟨its, n, r, ho, hz⟩ := I.lst hp
  obtain ⟨h1, h2, h3, h4⟩ := ixN_seq hj
  have hl := r.length
  have hn := line63
  have I' : Inv X pins σ (upd H p (.lst (xs.set j v))) { s with heap := s.heap.update p (Obj.mapSeq (·.setIfInBounds j u)) } :=
    I.lstUpd hp ho (mapSeq_set its n j u) (r.set rv j) (by rw [List.length_set]; exact hz) s.toks
  by_cases h0 : 0 ≤ k
  · have hk : k.toNat = j := by
      rw [seqIndex_of h0 h4] at h1
      exact Option.some.inj h1
    exact PySem.W.ki_setAt ho h0 (by omega) (by rw [List.size_toArray, ← hl]; exact h4) (by rw [hk]; exact ⟨_, I', q⟩)
  · have hk : (k + (its.toArray.size : Int)).toNat = j := by
      rw [seqIndex_neg (by omega) h3] at h1
      rw [List.size_toArray, ← hl]
      exact Option.some.inj h1
    exact PySem.W.ki_setBack ho (by omega) (by rw [List.size_toArray, ← hl]; exact h3) (by omega) (by rw [hk]; exact ⟨_, I', q⟩)
theorem slice_bounds (lo hi : Option Int) (n : Nat) : (sliceBounds lo hi none n).1 = ((HT.sIx n 0 lo : Nat) : Int) ∧ (sliceBounds lo hi none n).2.1 = ((HT.sIx n n hi : Nat) : Int) ∧ (sliceBounds lo hi none n).2.2 = 1 := by
  refine ⟨?_, ?_, rfl⟩
  · cases lo with
    | none => simp [sliceBounds, HT.sIx]
    | some i =>
      simp only [sliceBounds, HT.sIx, Option.getD_none, show (1 : Int) > 0 by decide, if_true]
      by_cases h : i < 0
      · simp only [h, if_true] <;> omega
      · simp only [h, if_false] <;> omega
  · cases hi with
    | none => simp [sliceBounds, HT.sIx]
    | some i =>
      simp only [sliceBounds, HT.sIx, Option.getD_none, show (1 : Int) > 0 by decide, if_true]
      by_cases h : i < 0
      · simp only [h, if_true] <;> omega
      · simp only [h, if_false] <;> omega
theorem slicePick_cut (its : List Value) (lo hi : Option Int) : slicePick its.toArray lo hi none = ((its.drop (HT.sIx its.length 0 lo)).take (HT.sIx its.length its.length hi - HT.sIx its.length 0 lo)).toArray := by
  obtain ⟨h1, h2, h3⟩ := slice_bounds lo hi its.toArray.size
  unfold slicePick
  rw [h1, h2, h3]
  simp only [sliceRange_one, pick_run, List.size_toArray] <;> rfl
/-- xs[lo:hi] of a list: a new list -/
def rSlL (K : PySem.W.Frag) : V → Option Int → Option Int → Hp → VK → Prop := fun x lo hi H Q => ∃ a xs, x = .ref a ∧ SqL K H a xs ∧ ∀ p, H p = none → Q (.ref p) (upd H p (.lst (cutV xs lo hi)))
theorem sl_list : SlR X (rSlL X.K) := by
  intro pins s σ H x v vl vu lo hi sl Q I rx hs pl pu h
  obtain ⟨a, xs, rfl, hx, q⟩ := h
  cases rx
  obtain ⟨its, r, ht, hz⟩ := I.list hx
  have hlen := r.length
  refine ⟨"list", _, slot_list_getitem.lookup, ht.isList.typeIs, ?_⟩
  refine wpAny_getItem_list_slice ht.isList hs pl pu .none (by simp) ?_ (by rw [List.size_toArray] <;> omega)
  rw [slicePick_cut, ← hlen]
  refine ⟨.ref s.heap.objs.size, _, I.laid (t' := s.toks) (o := .lst (cutV xs lo hi)) (fun b ob q => Heap.get?_push_of_some _ q) (Nat.le_refl _) ?_, rfl, q _ (I.hok.fresh (Nat.le_refl _))⟩
  exact ⟨Nat.le_trans (cutV_length xs lo hi) hz, _, 0, (r.drop (HT.sIx xs.length 0 lo)).take (HT.sIx xs.length xs.length hi - HT.sIx xs.length 0 lo), Heap.get?_push_size _ rfl⟩
theorem call_len_seq : CallR X (.builtin "len") (fun xs H Q => ∃ p ys, xs = [.ref p] ∧ (SqL X.K H p ys ∨ SqT X.K H p ys) ∧ Q (.int ys.length) H) := by
  intro pins s σ H xs us Q I r h
  obtain ⟨p, ys, rfl, hq, q⟩ := h
  obtain ⟨u, rfl, rx⟩ := vals1 r
  cases rx
  have hn := line63
  rcases hq with hq | hq
  · obtain ⟨its, r', pl, hz⟩ := I.list hq
    have hlen := r'.length
    exact Calls.call_len_list pl.isList (by simp only [List.size_toArray] <;> omega) ⟨.int ys.length, H, I.tok _, ⟨s.toks + 1, by rw [List.size_toArray, hlen]⟩, q⟩
  · obtain ⟨its, r', pl, hz⟩ := I.tuple hq
    have hlen := r'.length
    exact len_tuple pl (by simp only [List.size_toArray] <;> omega) ⟨.int ys.length, H, I.tok _, ⟨s.toks + 1, by rw [List.size_toArray, hlen]⟩, q⟩
theorem CallR.or {f : Value} {r r' : List V → Hp → VK → Prop} (h : CallR X f r) (h' : CallR X f r') : CallR X f (fun xs H Q => r xs H Q ∨ r' xs H Q) := by
  intro pins s σ H xs us Q I rs q
  rcases q with q | q
  · exact h pins s σ H xs us Q I rs q
  · exact h' pins s σ H xs us Q I rs q
theorem call_list_of : CallR X (.type "list") (fun xs H Q => ∃ p ys, xs = [.ref p] ∧ (SqL X.K H p ys ∨ SqT X.K H p ys) ∧ ∀ l, H l = none → Q (.ref l) (upd H l (.lst ys))) := by
  intro pins s σ H xs us Q I r h
  obtain ⟨p, ys, rfl, hq, q⟩ := h
  obtain ⟨u, rfl, rx⟩ := vals1 r
  cases rx
  have fin : ∀ (its : List Value), Vals ys its → ys.length ≤ sizeLine → ∀ (h' : Heap) (c' : Nat), (∀ b o', s.heap.get? b = some o' → h'.get? b = some o') →
      h'.get? s.heap.objs.size = some { cls := .type "list", dict := none, data := .seq its.toArray c', slots := #[] } → EP X pins σ Q (.ref s.heap.objs.size) { s with heap := h' } := fun its r' hz h' c' kp e =>
    ⟨.ref s.heap.objs.size, _, I.laid (t' := s.toks) kp (Nat.le_refl _) (show ObjOk X.prog X.w _ h' _ (.lst ys) from ⟨hz, its, c', r', e⟩), rfl, q _ (I.hok.fresh (Nat.le_refl _))⟩
  rcases hq with hq | hq
  · obtain ⟨its, r', pl, hz⟩ := I.list hq
    have hlen := r'.length
    obtain ⟨o, ho, hc, n, hd⟩ := pl.isList
    exact call_list_seq p (.inl rfl) ho hc hd (fun h' c' kp e => fin its r' hz h' c' kp e) (by simp only [List.size_toArray] <;> omega)
  · obtain ⟨its, r', pl, hz⟩ := I.tuple hq
    have hlen := r'.length
    obtain ⟨o, ho, hc, n, hd⟩ := pl
    exact call_list_seq p (.inr rfl) ho hc hd (fun h' c' kp e => fin its r' hz h' c' kp e) (by simp only [List.size_toArray] <;> omega)
theorem call_tuple_of : CallR X (.type "tuple") (fun xs H Q => ∃ p ys, xs = [.ref p] ∧ ((SqL X.K H p ys ∧ ∀ l, H l = none → Q (.ref l) (upd H l (.tup ys))) ∨ (SqT X.K H p ys ∧ Q (.ref p) H))) := by
  intro pins s σ H xs us Q I r h
  obtain ⟨p, ys, rfl, h⟩ := h
  obtain ⟨u, rfl, rx⟩ := vals1 r
  cases rx
  rcases h with ⟨hq, q⟩ | ⟨hq, q⟩
  · obtain ⟨its, r', pl, hz⟩ := I.list hq
    have hlen := r'.length
    refine call_tuple_list pl.isList (fun h' kp => ?_) (by simp only [List.size_toArray] <;> omega)
    have I1 : Inv X pins σ H { s with heap := h' } := I.kept (t' := s.toks) kp
    have I2 : Inv X pins σ (upd H h'.objs.size (.tup ys)) { s with heap := h'.push { cls := .type "tuple", data := .seq its.toArray } } :=
      I1.laid (t' := s.toks) (fun b o e => Heap.get?_push_of_some _ e) (Nat.le_refl _) (show ObjOk X.prog X.w _ _ _ (.tup ys) from ⟨hz, its, r', IsTup.new _ _⟩)
    exact ⟨.ref h'.objs.size, _, I2, rfl, q _ (I1.hok.fresh (Nat.le_refl _))⟩
  · obtain ⟨its, r', pl, hz⟩ := I.tuple hq
    exact call_tuple_same pl ⟨.ref p, H, I, rfl, q⟩
/-- the value is of that builtin type -/
def tyV (K : PySem.W.Frag) (T : String) (x : V) (H : Hp) : Prop := match x with
  | .str _ => T = "str"
  | .int _ => T = "int"
  | .ref p => (T = "list" ∧ ∃ xs, SqL K H p xs) ∨ (T = "tuple" ∧ ∃ o, K.lookup p = some o ∧ o.cls = .type "tuple" ∧ o.dict = none) ∨
      (T = "dict" ∧ ((∃ kvs, H p = some (.dK kvs)) ∨ ∃ kvs, H p = some (.dT kvs))) ∨ (T = "set" ∧ ∃ S n, H p = some (.set S n))
  | _ => False
theorem tyV_is {pins : List (Addr × Obj)} {σ : St} {H : Hp} {s : Shared} {T : String} {x : V} {v : Value} (I : Inv X pins σ H s) (r : RelV x v) (ty : tyV X.K T x H) :
    s.TypeIs v T ∧ ∀ a, v = .ref a → ∃ ob, s.heap.get? a = some ob ∧ ob.dict = none := by
  cases x with
  | str z =>
    obtain ⟨t, rfl⟩ := r
    cases (show T = "str" from ty)
    exact ⟨typeIs_str s z t, fun _ e => nomatch e⟩
  | int i =>
    obtain ⟨t, rfl⟩ := r
    cases (show T = "int" from ty)
    exact ⟨typeIs_int s i t, fun _ e => nomatch e⟩
  | ref p =>
    cases r
    rcases ty with ⟨rfl, xs, hq⟩ | ⟨rfl, o, hk, hc, hd⟩ | ⟨rfl, hk⟩ | ⟨rfl, S, n, hk⟩
    · obtain ⟨its, _, pl, _⟩ := I.list hq
      refine ⟨pl.isList.typeIs, fun a e => ?_⟩
      cases e
      obtain ⟨o, n, e, c, hd, _⟩ := pl
      exact ⟨o, e, hd⟩
    · refine ⟨⟨o, I.kIn p o hk, hc⟩, fun a e => ?_⟩
      cases e
      exact ⟨o, I.kIn _ o hk, hd⟩
    · have z : ∃ o, s.heap.get? p = some o ∧ o.ExactDict := by
        rcases hk with ⟨kvs, hk⟩ | ⟨kvs, hk⟩
        · obtain ⟨_, _, _, _, o, _, _, e, ex, _⟩ := I.hok p _ hk
          exact ⟨o, e, ex⟩
        · obtain ⟨_, _, _, _, o, _, _, e, ex, _⟩ := I.hok p _ hk
          exact ⟨o, e, ex⟩
      obtain ⟨o, e, ex⟩ := z
      refine ⟨⟨o, e, ex.1⟩, fun a e2 => ?_⟩
      cases e2
      exact ⟨o, e, ex.2.1⟩
    · obtain ⟨o, _, _, _, e, ex, _⟩ := I.hok p _ hk
      refine ⟨⟨o, e, ex.1⟩, fun a e2 => ?_⟩
      cases e2
      exact ⟨o, e, ex.2.1⟩
  | _ => exact False.elim ty
def tBM (K : PySem.W.Frag) (T : String) (r : V → List V → Hp → VK → Prop) (to : TE) (t : TA) : TE := fun σ H Q => to σ H fun x H1 => tyV K T x H1 ∧ t σ H1 fun xs H2 => r x xs H2 Q
variable {o e : Expr} {es : List Expr} {to : TE} {t : TA} {name : Str} {apos cpos : Pos} {T id : String} {r : V → List V → Hp → VK → Prop}
theorem pe_bm (pa : PlainAttrs T) (slot : Slot T name id) (hty : typeOf (.builtin id) = pure (.type "method_descriptor")) (hm : MtR X id r) (ho : PE X o to) (ha : PA X (e :: es) t)
    (hbase : attributeBase o name X.env (eval o X.env) = eval o X.env := by rfl)
    (hfew : ((backTo cpos (starEach (e :: es) X.env)).all (fun x => !x.1) && (backToKw cpos (keywordEach [] X.env)).all (fun x => x.1.isSome)
      && decide ((e :: es).length + ([] : List Keyword).length + (if ([] : List Keyword).isEmpty then 0 else 1) < 30)) = true := by rfl)
    (hline : (apos.endLine == cpos.line) = true := by rfl) (hs : starEach (e :: es) X.env = (false, eval e X.env) :: starEach es X.env := by rfl) (hplain : (backTo cpos (starEach es X.env)).any (·.1) = false := by rfl) :
    PE X (.Call (.Attribute o name apos) (e :: es) [] cpos) (tBM X.K T r to t) := by
  intro pins s σ H Q I h
  refine wpAny_Call_method_late hbase hfew hline rfl (thn (ho pins s σ H _ I h) fun v s1 ⟨x, H1, I1, r1, ty, q1⟩ => ?_)
  obtain ⟨h1, h2⟩ := tyV_is I1 r1 ty
  refine ⟨T, id, pa, slot, hty, h1, h2, ?_⟩
  have hA := ha cpos pins s1 σ H1 _ I1 q1
  rw [hs] at hA ⊢
  refine Calls.callWith_builtin (by show (false || (backTo cpos (starEach es X.env)).any (·.1)) = false; rw [hplain] <;> rfl) (Calls.evalArgs_plain ?_)
  exact thn hA fun us s2 ⟨vs, H2, I2, r2, q2⟩ => hm pins s2 σ H2 x vs v us Q I2 r1 r2 q2
end
end L2
namespace L2
open PySem PySem.Spec PyProof.Rows
def MtM (X : Cx) (id : String) (r : V → List V → Hp → VK → Prop) : Prop :=
  ∀ (pins : List (Addr × Obj)) (s : Shared) (σ : St) (H : Hp) (x : V) (xs : List V) (v : Value) (us : List Value) (Q : VK), Inv X pins σ H s → RelV x v → Vals xs us → r x xs H Q →
    wpAny (model X.prog X.w) X.A (call (.builtin id) (v :: us)) (EP X pins σ Q) X.xe s
theorem Vals.one : ∀ {x : V} {us : List Value}, Vals [x] us → ∃ u, us = [u] ∧ RelV x u
  | _, _, .cons r .nil => ⟨_, rfl, r⟩
theorem Vals.two : ∀ {x y : V} {us : List Value}, Vals [x, y] us → ∃ u v, us = [u, v] ∧ RelV x u ∧ RelV y v
  | _, _, _, .cons r (.cons q .nil) => ⟨_, _, rfl, r, q⟩
theorem Vals.zero : ∀ {us : List Value}, Vals [] us → us = []
  | _, .nil => rfl
theorem Vals.reverse {xs : List V} {us : List Value} (h : Vals xs us) : Vals xs.reverse us.reverse := by
  induction h with
  | nil => exact .nil
  | cons r t ih => rw [List.reverse_cons, List.reverse_cons]; exact Vals.append ih (.cons r .nil)
theorem Vals.rep {xs : List V} {us : List Value} (h : Vals xs us) : ∀ k : Nat, Vals (List.replicate k xs).flatten (List.replicate k us).flatten
  | 0 => .nil
  | k + 1 => by
    rw [List.replicate_succ, List.replicate_succ, List.flatten_cons, List.flatten_cons]
    exact Vals.append h (Vals.rep h k)
theorem foldl_rep (its : List Value) : ∀ (k : Nat) (acc : List Value),
    List.foldl (fun x1 x2 => x1 ++ x2) acc.toArray (List.replicate k its.toArray) = (acc ++ (List.replicate k its).flatten).toArray
  | 0, acc => by simp
  | k + 1, acc => by
    have e : acc.toArray ++ its.toArray = (acc ++ its).toArray := by simp
    have e2 : (acc ++ its) ++ (List.replicate k its).flatten = acc ++ (List.replicate (k + 1) its).flatten := by
      rw [List.replicate_succ, List.flatten_cons, List.append_assoc]
    rw [← e2, ← foldl_rep its k (acc ++ its), ← e, List.replicate_succ, List.foldl_cons]
section
variable {X : Cx} {pins : List (Addr × Obj)} {σ : St} {H : Hp} {s : Shared} {l b : Addr} {xs ys zs : List V}
theorem Inv.lset {its its' : List Value} {n : Nat} {f : Array Value → Array Value} {t' : Nat} (I : Inv X pins σ H s) (hH : H l = some (.lst xs))
    (e : s.heap.get? l = some { cls := .type "list", data := .seq its.toArray n }) (hf : f its.toArray = its'.toArray) (hv : Vals ys its') (hz : ys.length ≤ sizeLine) :
    Inv X pins σ (upd H l (.lst ys)) { s with heap := s.heap.update l (Obj.mapSeq f), toks := t' } := by
  have q := PySem.IsL.update e f
  rw [hf] at q
  refine I.write (x := l) (e := l) (by rw [hH]; exact trivial) (.inl rfl) (fun b' u hb hu => (Heap.get?_update_other s.heap (Obj.mapSeq f) (Ne.symm hb)).trans hu) ⟨_, q⟩ ?_
  exact ⟨hz, its', _, hv, q⟩
theorem Inv.lnew {its : List Value} {t' : Nat} (I : Inv X pins σ H s) (hv : Vals ys its) (hz : ys.length ≤ sizeLine) :
    Inv X pins σ (upd H s.heap.objs.size (.lst ys)) { s with heap := s.heap.push { cls := .type "list", data := .seq its.toArray }, toks := t' } :=
  I.laid (fun _ _ q => Heap.get?_push_of_some _ q) (Nat.le_refl _) ⟨hz, its, 0, hv, Heap.get?_push_size _ rfl⟩
theorem Inv.fresh (I : Inv X pins σ H s) : H s.heap.objs.size = none := I.hok.fresh (Nat.le_refl _)
theorem Inv.lstM (I : Inv X pins σ H s) (hH : H l = some (.lst xs)) : xs.length ≤ sizeLine ∧ ∃ (its : List Value) (n : Nat), Vals xs its ∧ xs.length = its.length ∧ s.heap.get? l = some { cls := .type "list", data := .seq its.toArray n } := by
  obtain ⟨z, its, n, r, e⟩ := I.hok l _ hH
  exact ⟨z, its, n, r, r.length, e⟩
theorem notLongL {n : Nat} (h : n ≤ sizeLine) : Builtin.List.listTooLong n = false := by
  unfold Builtin.List.listTooLong
  exact decide_eq_false (by omega)
end
section
variable {X : Cx}
def rAppend : V → List V → Hp → VK → Prop := fun x vs H Q => ∃ l xs y, x = .ref l ∧ vs = [y] ∧ H l = some (.lst xs) ∧ xs.length < sizeLine ∧ Q .non (upd H l (.lst (xs ++ [y])))
theorem mt_append : MtM X "list.append" rAppend := by
  intro pins s σ H x vs v us Q I rx rv h
  obtain ⟨l, xs, y, rfl, rfl, hH, hz, q⟩ := h
  cases rx
  obtain ⟨u, rfl, ru⟩ := rv.one
  obtain ⟨z, its, n, r, hl, e⟩ := I.lstM hH
  refine call_meets F.slot_list_append ⟨_, e, rfl⟩ F.entry_list_append (F.args_list_append_2 _ _) (PySem.list_append l its.toArray n u (by rw [List.size_toArray]; omega)) ⟨e, ?_⟩
  refine ⟨.non, _, I.lset (its' := its ++ [u]) hH e (by simp) (r.append (.cons ru .nil)) ?_, rfl, q⟩
  rw [List.length_append, List.length_singleton]
  omega
def rExtend : V → List V → Hp → VK → Prop := fun x vs H Q => ∃ l b xs zs, x = .ref l ∧ vs = [.ref b] ∧ H l = some (.lst xs) ∧ H b = some (.lst zs) ∧ xs.length + zs.length ≤ sizeLine ∧ Q .non (upd H l (.lst (xs ++ zs)))
theorem mt_extend : MtM X "list.extend" rExtend := by
  intro pins s σ H x vs v us Q I rx rv h
  obtain ⟨l, b, xs, zs, rfl, rfl, hH, hB, hz, q⟩ := h
  cases rx
  obtain ⟨u, rfl, ru⟩ := rv.one
  cases ru
  obtain ⟨z, its, n, r, hl, e⟩ := I.lstM hH
  obtain ⟨z2, its2, n2, r2, hl2, e2⟩ := I.lstM hB
  have hsz : its.toArray.size + its2.toArray.size ≤ sizeLine := by rw [List.size_toArray, List.size_toArray]; omega
  have hlong : ¬ (!its.toArray.isEmpty && Builtin.List.listTooLong (its.toArray.size + its2.toArray.size)) = true := by
    rw [notLongL hsz, Bool.and_false]
    exact Bool.false_ne_true
  refine call_meets F.slot_list_extend ⟨_, e, rfl⟩ F.entry_list_extend (F.args_list_extend_2 _ _)
    (AutoSeq1.list_extend_list_list_0 l its.toArray n b its2.toArray n2 hlong (by rw [List.size_toArray]; omega) (by omega)) ⟨e, e2, ?_⟩
  refine ⟨.non, _, I.lset (its' := its ++ its2) hH e (by simp) (r.append r2) ?_, rfl, q⟩
  rw [List.length_append]
  omega
def rCat : R2 := fun x y H Q => ∃ l b xs zs, x = .ref l ∧ y = .ref b ∧ H l = some (.lst xs) ∧ H b = some (.lst zs) ∧ xs.length + zs.length ≤ sizeLine ∧ ∀ p, H p = none → Q (.ref p) (upd H p (.lst (xs ++ zs)))
theorem op_cat : OpR X (binaryOp .Add) rCat := by
  intro pins s σ H x y v u Q I rx ry h
  obtain ⟨l, b, xs, zs, rfl, rfl, hH, hB, hz, q⟩ := h
  cases rx
  cases ry
  obtain ⟨z, its, n, r, hl, e⟩ := I.lstM hH
  obtain ⟨z2, its2, n2, r2, hl2, e2⟩ := I.lstM hB
  refine PySem.P.add_list e e2 ?_ (by rw [List.size_toArray, List.size_toArray]; omega)
  have ea : its.toArray ++ its2.toArray = (its ++ its2).toArray := by simp
  rw [ea]
  exact ⟨.ref _, _, I.lnew (t' := s.toks) (r.append r2) (by rw [List.length_append]; omega), rfl, q _ I.fresh⟩
/-- a list times an int (a negative one is nothing) -/
def rRep : R2 := fun x y H Q => ∃ l k xs, x = .ref l ∧ y = .int k ∧ H l = some (.lst xs) ∧ -(2 ^ 63) ≤ k ∧ k < 2 ^ 63 ∧ xs.length * k.toNat ≤ sizeLine ∧
  ∀ p, H p = none → Q (.ref p) (upd H p (.lst (List.replicate k.toNat xs).flatten))
theorem len_rep {α : Type} (xs : List α) (k : Nat) : (List.replicate k xs).flatten.length = k * xs.length := by
  induction k with
  | zero => simp
  | succ k ih => rw [List.replicate_succ, List.flatten_cons, List.length_append, ih, Nat.succ_mul, Nat.add_comm]
theorem op_rep : OpR X (binaryOp .Mult) rRep := by
  intro pins s σ H x y v u Q I rx ry h
  obtain ⟨l, k, xs, rfl, rfl, hH, h1, h2, hz, q⟩ := h
  cases rx
  obtain ⟨t, rfl⟩ := ry
  obtain ⟨z, its, n, r, hl, e⟩ := I.lstM hH
  have hlen : its.toArray.size * k.toNat ≤ sizeLine := by rw [List.size_toArray, ← hl]; exact hz
  have hcap : ¬ its.toArray.size * k.toNat > (2 ^ 63 - 1) / 8 := by
    have : (sizeLine : Nat) ≤ (2 ^ 63 - 1) / 8 := by decide
    omega
  have hfit : ¬ (!Builtin.List.listFitsIndex k) = true := by
    rw [fitsIndex_both h1 h2]
    exact Bool.false_ne_true
  have hlong : ¬ Builtin.List.listTooLong (its.toArray.size * k.toNat) = true := by
    rw [notLongL hlen]
    exact Bool.false_ne_true
  have hnew : List.foldl (fun x1 x2 => x1 ++ x2) #[] (List.replicate (if its.toArray.isEmpty = true then 0 else k.toNat) its.toArray) = (List.replicate k.toNat its).flatten.toArray := by
    have f0 : ∀ m : Nat, List.foldl (fun x1 x2 => x1 ++ x2) #[] (List.replicate m its.toArray) = (List.replicate m its).flatten.toArray := fun m => by
      have := foldl_rep its m []
      rw [List.nil_append] at this
      exact this
    rw [f0]
    cases its with
    | nil => simp
    | cons a r' => rw [if_neg (by simp)]
  refine wpAny_binaryOp_repeat_ref (T := "list") (U := "int") (by decide) ⟨_, e, rfl⟩ (fun s' => typeIs_int s' k t) noFill_list_mul F.fills_int_mul F.slot_int_rmul repeat_list F.slot_int_index.lookup
    (call_meets F.slot_int_rmul (typeIs_int s k t) F.entry_int_rmul (F.args_int_rmul_2 _ _) (int___rmul___int_list k t l its.toArray n)
      ⟨e, rfl, ⟨_, e, rfl⟩, call_meets F.slot_list_mul ⟨_, e, rfl⟩ F.entry_list_mul (F.args_list_mul_2 _ _) (AutoListH.list___mul___list_int_3 l its.toArray n k t hfit hcap hlong) ⟨e, ?_⟩⟩)
  rw [hnew]
  exact ⟨.ref _, _, I.lnew (t' := s.toks) (r.rep k.toNat) (by rw [len_rep, Nat.mul_comm]; exact hz), rfl, q _ I.fresh⟩
end
section
variable {prog : Program} {w : World} {A : Around} {E : Value → Shared → Prop} {s : Shared}
end
section
variable {X : Cx}
end
end L2
namespace L2
open PySem PySem.Spec PyProof.Rows
theorem Vals.ints : ∀ {ns : List Int} {us : List Value}, Vals (ns.map V.int) us → IntsAre us ns
  | [], us, h => by
    rw [List.map_nil] at h
    cases h
    exact IntsAre.nil
  | n :: ns, us, h => by
    rw [List.map_cons] at h
    cases h with
    | cons r t =>
      obtain ⟨k, rfl⟩ := r
      exact IntsAre.cons n k (Vals.ints t)
theorem Vals.strs : ∀ {xs : List Str} {us : List Value}, Vals (xs.map V.str) us → StrsAre us xs
  | [], us, h => by
    rw [List.map_nil] at h
    cases h
    exact StrsAre.nil
  | x :: xs, us, h => by
    rw [List.map_cons] at h
    cases h with
    | cons r t =>
      obtain ⟨k, rfl⟩ := r
      exact StrsAre.cons x k (Vals.strs t)
section
variable {prog : Program} {w : World} {A : Around} {E : Value → Shared → Prop} {s : Shared} {l : Addr} {its : List Value} {ns : List Int} {Q : Value → Shared → Prop}
end
section
variable {X : Cx}
end
section
variable {X : Cx}
end
section
variable {X : Cx}
end
section
variable {X : Cx}
end
mutual
inductive Dp (K : PySem.W.Frag) (H : Hp) : V → PyData → Prop
  | non : Dp K H .non .none
  | bl (b : Bool) : Dp K H (.bl b) (.bool b)
  | int (i : Int) : Dp K H (.int i) (.int i)
  | str (x : Str) : Dp K H (.str x) (.str x)
  | lst {a : Addr} {xs : List V} {ds : List PyData} : SqL K H a xs → DpAll K H xs ds → Dp K H (.ref a) (.list ds)
  | tup {a : Addr} {xs : List V} {ds : List PyData} : SqT K H a xs → DpAll K H xs ds → Dp K H (.ref a) (.tuple ds)
inductive DpAll (K : PySem.W.Frag) (H : Hp) : List V → List PyData → Prop
  | nil : DpAll K H [] []
  | cons {v : V} {vs : List V} {d : PyData} {ds : List PyData} : Dp K H v d → DpAll K H vs ds → DpAll K H (v :: vs) (d :: ds)
end
section
variable {X : Cx} {pins : List (Addr × Obj)} {σ : St} {H : Hp} {s : Shared}
mutual
theorem Dp.reads (I : Inv X pins σ H s) : ∀ (d : PyData) (v : V) (u : Value), Dp X.K H v d → RelV v u → ∃ as, Reads s.heap u d as
  | .none, _, _, h, r => by
    cases h
    cases r
    exact ⟨_, Reads.none⟩
  | .bool b, _, _, h, r => by
    cases h
    cases r
    exact ⟨_, Reads.bool b⟩
  | .int i, _, _, h, r => by
    cases h
    obtain ⟨t, rfl⟩ := r
    exact ⟨_, Reads.int i t⟩
  | .str x, _, _, h, r => by
    cases h
    obtain ⟨t, rfl⟩ := r
    exact ⟨_, Reads.str x t⟩
  | .list ds, _, _, h, r => by
    cases h with
    | lst hs ha =>
      cases r
      obtain ⟨its, rv, ⟨o, n, ho, hc, _, hd⟩, _⟩ := I.list hs
      obtain ⟨as, hr⟩ := Dp.readsAll I ds _ its ha rv
      exact ⟨_, Reads.list ho hc hd hr⟩
  | .tuple ds, _, _, h, r => by
    cases h with
    | tup hs ha =>
      cases r
      obtain ⟨its, rv, ⟨o, ho, hc, n, hd⟩, _⟩ := I.tuple hs
      obtain ⟨as, hr⟩ := Dp.readsAll I ds _ its ha rv
      exact ⟨_, Reads.tuple ho hc hd hr⟩
  | .dict _, _, _, h, _ => by cases h
theorem Dp.readsAll (I : Inv X pins σ H s) : ∀ (ds : List PyData) (vs : List V) (us : List Value), DpAll X.K H vs ds → Vals vs us → ∃ as, ReadsAll s.heap us ds as
  | [], _, _, h, r => by
    cases h
    cases r
    exact ⟨_, ReadsAll.nil⟩
  | d :: ds, _, _, h, r => by
    cases h with
    | cons h1 h2 =>
      cases r with
      | cons r1 r2 =>
        obtain ⟨as, q1⟩ := Dp.reads I d _ _ h1 r1
        obtain ⟨bs, q2⟩ := Dp.readsAll I ds _ _ h2 r2
        exact ⟨_, ReadsAll.cons q1 q2⟩
end
end
section
variable {X : Cx}
end
end L2
namespace L2
open PySem PySem.Spec PyProof.Rows
abbrev CellAt (h : Heap) (c : Addr) (v : Option Value) : Prop := h.IsCell c v
def relS (scope sc : Scope) : Scope :=
  { scope with names := scope.names.map fun (n, k) => if (k == .free && sc.kind == .function && sc.names.lookup n == some .cell) then (n, .cell) else (n, k) }
def cloFrom (cells : List (Str × Addr)) : List (Str × NameKind) → List (Str × Addr) → List (Str × Addr)
  | [], acc => acc
  | (n, k) :: r, acc => if k == .free then cloFrom cells r ((n, (cells.lookup n).getD 0) :: acc) else cloFrom cells r acc
theorem closure_loop (env : Env) (f : Str × NameKind → List (Str × Addr) → Sem (ForInStep (List (Str × Addr))))
    (hf : ∀ n k c, f (n, k) c = if k == .free then (do let a ← cellOf env n; pure (.yield ((n, a) :: c))) else pure (.yield c)) :
    ∀ (names : List (Str × NameKind)) (acc : List (Str × Addr)), (∀ y ∈ names, y.2 = .free → ∃ c, env.cells.lookup y.1 = some c) → forIn names acc f = pure (cloFrom env.cells names acc)
  | [], acc, _ => by rw [List.forIn_nil]; rfl
  | (n, k) :: r, acc, h => by
    rw [List.forIn_cons, hf]
    have ih := fun acc => closure_loop env f hf r acc fun y hy => h y (List.mem_cons_of_mem _ hy)
    unfold cloFrom
    by_cases hk : (k == NameKind.free) = true
    · rw [if_pos hk, if_pos hk]
      obtain ⟨c, hc⟩ := h (n, k) List.mem_cons_self (by simpa using hk)
      have e : cellOf env n = pure c := by unfold cellOf; rw [hc]
      rw [e]
      have e2 : (env.cells.lookup n).getD 0 = c := by rw [hc]; rfl
      rw [e2]
      exact ih _
    · rw [if_neg hk, if_neg hk]
      exact ih _
theorem closure_ok {scope : Scope} {env : Env} (h : ∀ y ∈ scope.names, y.2 = .free → ∃ c, env.cells.lookup y.1 = some c) : closureFor scope env = pure (cloFrom env.cells scope.names []) := by
  simp only [closureFor]
  rw [closure_loop env _ (fun n k c => rfl) scope.names [] h]
  rfl
theorem mem_lookup {α : Type} : ∀ {l : List (Str × α)} {n : Str} {c : α}, (n, c) ∈ l → ∃ c', l.lookup n = some c'
  | (k, v) :: r, n, c, h => by
    rw [List.lookup_cons]
    cases hb : n == k with
    | true => exact ⟨_, rfl⟩
    | false =>
      rcases List.mem_cons.mp h with e | h
      · cases e; simp at hb
      · exact mem_lookup h
theorem cloFrom_mem {cells : List (Str × Addr)} : ∀ {names : List (Str × NameKind)} {acc : List (Str × Addr)} {n : Str} {c : Addr}, (n, c) ∈ cloFrom cells names acc → (n, c) ∈ acc ∨ ((n, .free) ∈ names ∧ c = (cells.lookup n).getD 0)
  | [], _, _, _, h => .inl h
  | (m, k) :: r, acc, n, c, h => by
    unfold cloFrom at h
    split at h
    · rename_i hk
      have hk : k = .free := by simpa using hk
      rcases cloFrom_mem h with h | ⟨h1, h2⟩
      · rcases List.mem_cons.mp h with e | h
        · cases e; exact .inr ⟨hk ▸ List.mem_cons_self, rfl⟩
        · exact .inl h
      · exact .inr ⟨List.mem_cons_of_mem _ h1, h2⟩
    · rcases cloFrom_mem h with h | ⟨h1, h2⟩
      · exact .inl h
      · exact .inr ⟨List.mem_cons_of_mem _ h1, h2⟩
theorem cloFrom_acc {cells : List (Str × Addr)} : ∀ {names : List (Str × NameKind)} {acc : List (Str × Addr)} {p : Str × Addr}, p ∈ acc → p ∈ cloFrom cells names acc
  | [], _, _, h => h
  | (m, k) :: r, acc, p, h => by
    unfold cloFrom
    split
    · exact cloFrom_acc (List.mem_cons_of_mem _ h)
    · exact cloFrom_acc h
theorem cloFrom_has {cells : List (Str × Addr)} : ∀ {names : List (Str × NameKind)} {acc : List (Str × Addr)} {n : Str}, (n, .free) ∈ names → (n, (cells.lookup n).getD 0) ∈ cloFrom cells names acc
  | (m, k) :: r, acc, n, h => by
    unfold cloFrom
    rcases List.mem_cons.mp h with e | h
    · cases e
      exact cloFrom_acc List.mem_cons_self
    · split
      · exact cloFrom_has h
      · exact cloFrom_has h
theorem cells_mem : ∀ {names : List (Str × NameKind)} {h : Heap} {acc : List (Str × Addr)} {x : Str} {c : Addr}, (x, c) ∈ cellsFrom h.objs.size names acc →
    (x, c) ∈ acc ∨ ((x, .cell) ∈ names ∧ h.objs.size ≤ c ∧ CellAt (pushCells h names) c none)
  | [], _, _, _, _, h => .inl h
  | (n, k) :: r, h, acc, x, c, hm => by
    unfold cellsFrom at hm
    unfold pushCells
    split at hm
    · rename_i hk
      rw [if_pos hk]
      have hk : k = .cell := by simpa using hk
      rw [← Heap.size_push h { cls := .type "cell", data := .cell none }] at hm
      rcases cells_mem hm with hm | ⟨h1, h2, h3⟩
      · rcases List.mem_cons.mp hm with e | hm
        · cases e
          exact .inr ⟨hk ▸ List.mem_cons_self, Nat.le_refl _, _, pushCells_keeps r _ _ _ (Heap.get?_push_size _ rfl), rfl⟩
        · exact .inl hm
      · rw [Heap.size_push] at h2
        exact .inr ⟨List.mem_cons_of_mem _ h1, Nat.le_of_succ_le h2, h3⟩
    · rename_i hk
      rw [if_neg hk]
      rcases cells_mem hm with hm | ⟨h1, h2, h3⟩
      · exact .inl hm
      · exact .inr ⟨List.mem_cons_of_mem _ h1, h2, h3⟩
theorem cells_acc : ∀ {names : List (Str × NameKind)} {n : Nat} {acc : List (Str × Addr)} {p : Str × Addr}, p ∈ acc → p ∈ cellsFrom n names acc
  | [], _, _, _, h => h
  | (m, k) :: r, n, acc, p, h => by
    unfold cellsFrom
    split
    · exact cells_acc (List.mem_cons_of_mem _ h)
    · exact cells_acc h
theorem cells_has : ∀ {names : List (Str × NameKind)} {n : Nat} {acc : List (Str × Addr)} {x : Str}, (x, .cell) ∈ names → ∃ c, (x, c) ∈ cellsFrom n names acc
  | (m, k) :: r, n, acc, x, h => by
    unfold cellsFrom
    rcases List.mem_cons.mp h with e | h
    · cases e
      exact ⟨n, cells_acc List.mem_cons_self⟩
    · split
      · exact cells_has h
      · exact cells_has h
theorem cells_inj : ∀ {names : List (Str × NameKind)} {h : Heap} {acc : List (Str × Addr)} {x y : Str} {c : Addr}, (∀ p ∈ acc, p.2 < h.objs.size) → (∀ x y c, (x, c) ∈ acc → (y, c) ∈ acc → x = y) →
    (x, c) ∈ cellsFrom h.objs.size names acc → (y, c) ∈ cellsFrom h.objs.size names acc → x = y
  | [], _, _, _, _, _, _, hi, h1, h2 => hi _ _ _ h1 h2
  | (n, k) :: r, h, acc, x, y, c, hl, hi, h1, h2 => by
    unfold cellsFrom at h1 h2
    split at h1
    · rename_i hk
      rw [if_pos hk] at h2
      rw [← Heap.size_push h { cls := .type "cell", data := .cell none }] at h1 h2
      refine cells_inj (h := h.push _) (fun p hp => ?_) (fun x y c a b => ?_) h1 h2
      · rw [Heap.size_push]
        rcases List.mem_cons.mp hp with rfl | hp
        · exact Nat.lt_succ_self _
        · exact Nat.lt_succ_of_lt (hl p hp)
      · rcases List.mem_cons.mp a with e | a <;> rcases List.mem_cons.mp b with e' | b
        · cases e; cases e'; rfl
        · cases e; exact absurd (hl _ b) (Nat.lt_irrefl _)
        · cases e'; exact absurd (hl _ a) (Nat.lt_irrefl _)
        · exact hi _ _ _ a b
    · rename_i hk
      rw [if_neg hk] at h2
      exact cells_inj hl hi h1 h2
theorem newEnv_comp {M : Model} {A : Around} {E : Value → Shared → Prop} {s : Shared} {scope : Scope} {globals : Addr} {closure : List (Str × Addr)} {qual : Str} {func : Option Addr} {code : Value} {around : Env} {builtins : Addr} {Q : Env → Shared → Prop}
    (h : Q (newEnv scope s.heap.objs.size globals (cellsFrom (s.heap.objs.size + 1) scope.names closure) qual func code (some around) builtins)
      { s with heap := pushCells (s.heap.push { cls := .type "dict", data := .dict #[] }) scope.names }) :
    wpAny M A (newFunctionEnv scope globals closure [] qual func code (some around) builtins) Q E s := by
  simp only [newFunctionEnv, Option.isSome_some, if_true]
  refine wpAny_bind (wpAny_alloc ?_)
  refine wpAny_bind (wpAny_layCells _ (fun n k c => rfl) scope.names closure _ _ ?_)
  rw [show ({ s with heap := s.heap.push { cls := .type "dict", data := .dict #[] } } : Shared).heap.objs.size = s.heap.objs.size + 1 from Heap.size_push ..]
  rw [List.forIn_nil]
  exact wpAny_bind (wpAny_pure (wpAny_pure h))
/-- every name of the written scope, in the scope that runs -/
theorem lookup_relS {sc : Scope} : ∀ {names : List (Str × NameKind)} {x : Str} {k : NameKind},
    (names.map fun (n, k) => if (k == NameKind.free && sc.kind == .function && sc.names.lookup n == some .cell) then (n, NameKind.cell) else (n, k)).lookup x = some k →
    ∃ k', names.lookup x = some k' ∧ (k = k' ∨ (k' = .free ∧ k = .cell))
  | [], _, _, h => by simp at h
  | (n, k₀) :: r, x, k, h => by
    have ih := @lookup_relS sc r x k
    have h' : List.lookup x ((if (k₀ == NameKind.free && sc.kind == .function && sc.names.lookup n == some .cell) = true then (n, NameKind.cell) else (n, k₀)) :: (r.map _)) = some k := h
    cases hx : x == n with
    | true =>
      simp only [List.lookup_cons, hx]
      by_cases hc : (k₀ == NameKind.free && sc.kind == .function && sc.names.lookup n == some .cell) = true
      · rw [if_pos hc] at h'
        simp only [List.lookup_cons, hx] at h'
        cases h'
        simp only [Bool.and_eq_true, beq_iff_eq] at hc
        exact ⟨k₀, rfl, .inr ⟨hc.1.1, rfl⟩⟩
      · rw [if_neg hc] at h'
        simp only [List.lookup_cons, hx] at h'
        cases h'
        exact ⟨_, rfl, .inl rfl⟩
    | false =>
      simp only [List.lookup_cons, hx]
      by_cases hc : (k₀ == NameKind.free && sc.kind == .function && sc.names.lookup n == some .cell) = true
      · rw [if_pos hc] at h'
        simp only [List.lookup_cons, hx] at h'
        exact ih h'
      · rw [if_neg hc] at h'
        simp only [List.lookup_cons, hx] at h'
        exact ih h'
/-- the names of a comprehension's block: its own (with their places in N), or captured -/
structure BlkOk (N : List Str) (sc scope : Scope) (own : List (Str × Nat)) : Prop where
  kind : scope.kind = .function
  uniq : ∀ y ∈ scope.names, scope.names.lookup y.1 = some y.2
  ix : ∀ p ∈ own, N[p.2]? = some p.1
  free : ∀ y ∈ scope.names, y.2 = .free → sc.names.lookup y.1 = some .cell ∨ sc.names.lookup y.1 = some .free
  own : ∀ y ∈ scope.names, y.2 = .local ∨ y.2 = .cell → y.1 ∈ own.map (·.1) ∨ y.1 ∉ N
/-- the slots of the block's own names forgotten -/
def wipe (σ : St) : List Nat → St
  | [] => σ
  | v :: vs => (wipe σ vs).set v none
theorem wipe_length (σ : St) : ∀ vs : List Nat, (wipe σ vs).length = σ.length
  | [] => rfl
  | v :: vs => by unfold wipe; rw [List.length_set, wipe_length σ vs]
theorem wipe_some {σ : St} {i : Nat} {x : V} : ∀ {vs : List Nat}, (wipe σ vs)[i]? = some (some x) → σ[i]? = some (some x) ∧ i ∉ vs
  | [], h => ⟨h, by simp⟩
  | v :: vs, h => by
    unfold wipe at h
    by_cases hi : v = i
    · subst hi
      by_cases hv : v < (wipe σ vs).length
      · rw [List.getElem?_set_self hv] at h; cases h
      · rw [List.getElem?_eq_none (by simpa using hv)] at h; cases h
    · rw [List.getElem?_set_ne hi] at h
      obtain ⟨h1, h2⟩ := wipe_some h
      exact ⟨h1, by simp only [List.mem_cons, not_or]; exact ⟨fun e => hi e.symm, h2⟩⟩
/-- the context of a block that starts at s, its iterator's objects at fp -/
abbrev Cx.blk (X : Cx) (s : Shared) (H : Hp) (scope : Scope) (cenv : Env) (fp : List Addr) : Cx := { X with s_0 := s, H_0 := H, env := cenv, outer := X.stack, ex := fp, fn := fun x => scope.names.lookup x == some .cell, pn := [], xe := fun _ _ => False }
section
variable {X : Cx} {pins : List (Addr × Obj)} {σ : St} {H : Hp} {s : Shared}
theorem block_start {scope : Scope} {own : List (Str × Nat)} {fp : List Addr} (I : Inv X pins σ H s) (ok : BlkOk X.N X.env.scope scope own) (hN : X.N.Nodup) (hfp : ∀ b ∈ fp, FpOk X pins H b ∧ b < s.heap.objs.size) :
    Inv (X.blk s H scope (compEnvC scope (cellsFrom (s.heap.objs.size + 1) scope.names (cloFrom X.env.cells scope.names [])) s.heap.objs.size X.env) fp) [] (wipe σ (own.map (·.2))) H { s with heap := pushCells (s.heap.push { cls := .type "dict", data := .dict #[] }) scope.names } := by
  have hfree : ∀ y ∈ scope.names, y.2 = .free → ∃ c, X.env.cells.lookup y.1 = some c := fun y hy e => by
    rcases ok.free y hy e with k | k
    · exact I.ok.has _ (.inl k)
    · exact I.ok.has _ (.inr k)
  generalize hcenv : compEnvC scope (cellsFrom (s.heap.objs.size + 1) scope.names (cloFrom X.env.cells scope.names [])) s.heap.objs.size X.env = cenv
  have kp : ∀ b o, s.heap.get? b = some o → (pushCells (s.heap.push { cls := .type "dict", data := .dict #[] }) scope.names).get? b = some o := fun b o e => pushCells_keeps _ _ _ _ (Heap.get?_push_of_some _ e)
  have hL : cenv.locals = s.heap.objs.size := by rw [← hcenv]; rfl
  have hcl : cenv.cells = cellsFrom (s.heap.objs.size + 1) scope.names (cloFrom X.env.cells scope.names []) := by rw [← hcenv]; rfl
  have hsc : cenv.scope = relS scope X.env.scope := by rw [← hcenv]; rfl
  rw [← Heap.size_push s.heap { cls := .type "dict", data := .dict #[] }] at hcl
  have cm : ∀ {y c}, (y, c) ∈ cloFrom X.env.cells scope.names [] → X.env.cells.lookup y = some c ∧ c < s.heap.objs.size := fun {y c} hm => by
    rcases cloFrom_mem hm with hm | ⟨h1, rfl⟩
    · cases hm
    · obtain ⟨c, hc⟩ := hfree _ h1 rfl
      rw [hc]
      obtain ⟨w, z⟩ := I.cell _ _ hc
      exact ⟨rfl, z.lt⟩
  have mem : ∀ {y c}, cenv.cells.lookup y = some c → (X.env.cells.lookup y = some c ∧ c < s.heap.objs.size) ∨ (s.heap.objs.size + 1 ≤ c ∧ CellAt (pushCells (s.heap.push { cls := .type "dict", data := .dict #[] }) scope.names) c none) := fun {y c} e => by
    rw [hcl] at e
    rcases cells_mem (PySem.mem_of_lookup e) with hm | ⟨_, h2, h3⟩
    · exact .inl (cm hm)
    · rw [Heap.size_push] at h2; exact .inr ⟨h2, h3⟩
  have look : ∀ {y}, scope.names.lookup y = some .free → ∃ c, cenv.cells.lookup y = some c ∧ X.env.cells.lookup y = some c := fun {y} hl => by
    have hy : (y, NameKind.free) ∈ scope.names := PySem.mem_of_lookup hl
    obtain ⟨c', e'⟩ := mem_lookup (cells_acc (names := scope.names) (n := (s.heap.push { cls := .type "dict", data := .dict #[] }).objs.size) (cloFrom_has (cells := X.env.cells) (acc := []) hy))
    rw [← hcl] at e'
    refine ⟨c', e', ?_⟩
    rw [hcl] at e'
    rcases cells_mem (PySem.mem_of_lookup e') with hm | ⟨h1, _, _⟩
    · exact (cm hm).1
    · have := ok.uniq _ h1
      rw [hl] at this; cases this
  have okB : (X.blk s H scope cenv fp).Ok := by
    refine ⟨I.ok.mod, by show cenv.scope.kind = _; rw [hsc]; exact ok.kind, by show cenv.globals = _; rw [← hcenv]; exact I.ok.glob, by show cenv.builtins = _; rw [← hcenv]; exact I.ok.blt, by show s.heap.objs.size ≤ cenv.locals; rw [hL]; exact Nat.le_refl _,
      fun y z c e1 e2 => ?_, fun y hy => ?_, fun y c z e => ?_, I.ok.hd, I.ok.frames, .inl rfl, fun b hb => ⟨?_, fun y c e z => ?_⟩, I.bs, Nat.le_trans I.ok.bsz I.sz, fun b o e hb => ?_, fun b hb z => ?_, I.stack, I.stkFree⟩
    · have e1 : cenv.cells.lookup y = some c := e1
      have e2 : cenv.cells.lookup z = some c := e2
      rw [hcl] at e1 e2
      refine cells_inj (fun p hp => ?_) (fun y z c a b => I.ok.inj y z c (cm a).1 (cm b).1) (PySem.mem_of_lookup e1) (PySem.mem_of_lookup e2)
      rw [Heap.size_push]
      exact Nat.lt_succ_of_lt (cm (y := p.1) (c := p.2) hp).2
    · show ∃ c, cenv.cells.lookup y = some c
      have key : ∀ k, cenv.kindOf y = some k → (k = .cell ∨ k = .free) → ∃ c, cenv.cells.lookup y = some c := fun k hk hk' => by
        unfold Env.kindOf at hk
        rw [hsc] at hk
        obtain ⟨k', e, r⟩ := lookup_relS hk
        have : k' = .cell ∨ k' = .free := by
          rcases r with rfl | ⟨rfl, _⟩
          · exact hk'
          · exact .inr rfl
        rcases this with rfl | rfl
        · obtain ⟨c, hm⟩ := cells_has (n := (s.heap.push { cls := .type "dict", data := .dict #[] }).objs.size) (acc := cloFrom X.env.cells scope.names []) (PySem.mem_of_lookup e)
          obtain ⟨c', e'⟩ := mem_lookup hm
          exact ⟨c', by rw [hcl]; exact e'⟩
        · obtain ⟨c, h1, _⟩ := look e
          exact ⟨c, h1⟩
      rcases hy with hy | hy
      · exact key _ hy (.inl rfl)
      · exact key _ hy (.inr rfl)
    · have z : (scope.names.lookup y == some NameKind.cell) = true := z
      have z : scope.names.lookup y = some .cell := by simpa using z
      have e : cenv.cells.lookup y = some c := e
      rw [hcl] at e
      rcases cells_mem (PySem.mem_of_lookup e) with hm | ⟨_, h2, _⟩
      · rcases cloFrom_mem hm with hm | ⟨h1, _⟩
        · cases hm
        · have q := ok.uniq _ h1
          rw [z] at q; cases q
      · rw [Heap.size_push] at h2
        exact Nat.le_of_succ_le h2
    · show b ≠ cenv.locals
      rw [hL]; exact Nat.ne_of_lt (hfp b hb).2
    · have e : cenv.cells.lookup y = some c := e
      rcases mem e with ⟨h1, _⟩ | ⟨h1, _⟩
      · exact (hfp b hb).1.2.2.2.2.1 y c h1 z
      · have h2 : s.heap.objs.size + 1 ≤ b := by rw [← z]; exact h1
        exact absurd (Nat.lt_of_lt_of_le (hfp b hb).2 (Nat.le_of_succ_le h2)) (Nat.lt_irrefl _)
    · rcases (hfp b hb).1.2.2.2.1 with z | z
      · exact I.ok.noex b o e z
      · exact absurd (Nat.lt_of_lt_of_le (Heap.lt_size e) (Nat.le_trans I.ok.bsz z)) (Nat.lt_irrefl _)
    · rcases List.mem_cons.mp (I.stkSub b z) with z | z
      · exact (hfp b hb).1.2.1 z
      · exact (hfp b hb).1.2.2.1 z
  refine ⟨okB, rfl, I.bare, Un.kept kp, ⟨fun _ => none, ?_, fun i y av e1 e2 e3 => ?_⟩, fun y c e => ?_, ?_, fun y c e => ?_, fun p hp => ?_, I.hok.kept kp, by rw [wipe_length]; exact I.len⟩
  · show Heap.Ns _ cenv.locals _
    rw [hL]
    exact Heap.Ns.keeps (Heap.Ns.new ..) fun b o e => pushCells_keeps _ _ _ _ e
  · obtain ⟨e2, hne⟩ := wipe_some e2
    have hfr : scope.names.lookup y = some .free ∧ (cenv.kindOf y = some .cell ∨ cenv.kindOf y = some .free) := by
      have key : ∀ k, cenv.scope.names.lookup y = some k → k = .local ∨ k = .cell ∨ k = .free → scope.names.lookup y = some .free ∧ (cenv.kindOf y = some .cell ∨ cenv.kindOf y = some .free) := fun k hk hk' => by
        have hk0 := hk
        rw [hsc] at hk
        obtain ⟨k', e, r⟩ := lookup_relS hk
        have no : ¬ (k' = .local ∨ k' = .cell) := fun hh => by
          rcases ok.own _ (PySem.mem_of_lookup e) hh with e' | e'
          · obtain ⟨p, hp, hpy⟩ := List.mem_map.mp e'
            have e3 := ok.ix p hp
            have : p.1 = y := hpy
            rw [this] at e3
            exact hne (List.mem_map.mpr ⟨p, hp, nodup_ix hN e3 e1⟩)
          · exact e' (List.mem_of_getElem? e1)
        rcases r with rfl | ⟨rfl, rfl⟩
        · rcases hk' with rfl | rfl | rfl
          · exact absurd (.inl rfl) no
          · exact absurd (.inr rfl) no
          · exact ⟨e, .inr hk0⟩
        · exact ⟨e, .inl hk0⟩
      have e3 : Vis cenv.scope y := e3
      rcases e3 with e3 | e3 | e3
      · exact key _ e3 (.inl rfl)
      · exact key _ e3 (.inr (.inl rfl))
      · exact key _ e3 (.inr (.inr rfl))
    obtain ⟨m, hn, hl⟩ := I.loc
    have hvis : Vis X.env.scope y := (ok.free _ (PySem.mem_of_lookup hfr.1) rfl).elim (fun k => .inr (.inl k)) (fun k => .inr (.inr k))
    obtain ⟨w, r, q⟩ := hl i y av e1 e2 hvis
    refine ⟨w, r, .inr ⟨hfr.2, ?_⟩⟩
    obtain ⟨c, h1, h2⟩ := look hfr.1
    rcases q with ⟨k, _⟩ | ⟨_, c', e', z⟩
    · have k : X.env.scope.names.lookup y = some .local := k
      rcases ok.free _ (PySem.mem_of_lookup hfr.1) rfl with k' | k' <;> rw [show X.env.scope.names.lookup y = _ from k'] at k <;> cases k
    · rw [h2] at e'; cases e'
      exact ⟨c, h1, z.keeps kp⟩
  · have e : cenv.cells.lookup y = some c := e
    rcases mem e with ⟨h1, _⟩ | ⟨_, z⟩
    · obtain ⟨w, z⟩ := I.cell y c h1
      exact ⟨w, z.keeps kp⟩
    · exact ⟨_, z⟩
  · show H cenv.locals = none
    rw [hL]; exact I.hok.fresh (Nat.le_refl _)
  · have e : cenv.cells.lookup y = some c := e
    rcases mem e with ⟨h1, _⟩ | ⟨h1, _⟩
    · exact I.freeC y c h1
    · exact I.hok.fresh (Nat.le_of_succ_le h1)
  · exact absurd (show p ∈ ([] : List (Addr × Obj)) ++ [] from hp) (by simp)
/-- an item appended to a tracked list -/
theorem app_ok {E : Value → Shared → Prop} {D : Addr} {xs : List V} {y : V} {v : Value} {Q : Value → Shared → Prop} (I : Inv X pins σ H s) (hD : H D = some (.lst xs)) (hz : xs.length < sizeLine) (r : RelV y v)
    (h : ∀ s', Inv X pins σ (upd H D (.lst (xs ++ [y]))) s' → Q .none s') : wpAny (model X.prog X.w) X.A (call (.builtin "list.append") [.ref D, v]) Q E s := by
  obtain ⟨hz', its, n, ri, e⟩ := I.hok D _ hD
  have hl := ri.length
  refine append_at (hsz := by rw [List.size_toArray]; omega) e fun h' sb ho' => ?_
  refine h { s with heap := h' } (I.write (t' := s.toks) (by rw [hD]; trivial) (.inl rfl) (fun b u hb q => (sb.2 b hb).trans q) ⟨_, ho'⟩ ⟨by rw [List.length_append]; exact hz, its ++ [v], n + 1, ri.append (.cons r .nil), ?_⟩)
  rw [ho']
  simp
/-- a clause's tests -/
def PTs (X : Cx) (ifs : List Expr) (t : TT) : Prop :=
  ∀ (pins : List (Addr × Obj)) (s : Shared) (σ : St) (H : Hp) (Q : Bool → Hp → Prop), Inv X pins σ H s → t σ H Q →
    wpAny (model X.prog X.w) X.A (forIn ifs true fun c r => if r = true then do let ok ← isTrue c X.env (eval c X.env); pure (ForInStep.yield ok) else pure (ForInStep.yield r)) (TP X pins σ Q) X.xe s
def tYes : TT := fun _ H Q => Q true H
theorem pts_nil : PTs X [] tYes := fun _ _ _ H _ I h => wpAny_tests_nil ⟨H, I, h⟩
end
theorem thnF {α : Type} {t : Sem α} {Q Q' : α → Shared → Prop} {M : Model} {A : Around} {E : Value → Shared → Prop} {s : Shared} (h : wpAny M A t Q (fun _ _ => False) s) (hQ : ∀ a s, Q a s → Q' a s) : wpAny M A t Q' E s := wpAny_mono h hQ fun _ _ z => False.elim z
/-- the loop of a list comprehension's block, the target of any form (codeAny_compLoop_tests asks a target that no tuple goes to; statement and proof follow it, PyProof/CompMap.lean:41-61, with the step letOwnedTupleGo kept) -/
theorem compLoop_any {prog : Program} {w : World} {A : Around} {R : Result → Shared → Prop} {s : Shared} {elt target iter : Expr} {ifs : List Expr} {scope : Scope} {pos : Pos} {it acc : Value} {env : Env} (I : Nat → Shared → Prop)
    (turn : ∀ n s, I n s → wpAny (model prog w) A (pyNext it) (fun r s₁ => match r with
      | none => R (.ok .next) s₁
      | some v => wpAny (model prog w) A (letOwnedTupleGo target it v) (fun _ s₁' => wpAny (model prog w) A (assign target env v) (fun _ s₂ =>
          wpAny (model prog w) A (forIn ifs true fun c r => if r = true then do let ok ← isTrue c env (eval c env); pure (ForInStep.yield ok) else pure (ForInStep.yield r)) (fun ok s₃ =>
            if ok = true then wpAny (model prog w) A (eval elt env) (fun x s₄ =>
              wpAny (model prog w) A (call (.builtin "list.append") [acc, x]) (fun _ s₅ => ∃ m, m < n ∧ I m s₅) (notedBy (model prog w) A env fun e s' => R (.error e) s') s₄) (notedBy (model prog w) A env fun e s' => R (.error e) s') s₃
            else ∃ m, m < n ∧ I m s₃) (notedBy (model prog w) A env fun e s' => R (.error e) s') s₂) (notedBy (model prog w) A env fun e s' => R (.error e) s') s₁') (notedBy (model prog w) A env fun e s' => R (.error e) s') s₁) (notedBy (model prog w) A env fun e s' => R (.error e) s') s)
    (n : Nat) (h : I n s) :
    codeAny (model prog w) A (.compLoop (.ListComp elt [⟨target, iter, ifs, 0⟩] scope pos) 0 it acc env) R s := by
  refine codeAny_loop rfl I (fun n s hI => ?_) n h
  show wpAny _ A ((compTurn (.ListComp elt [⟨target, iter, ifs, 0⟩] scope pos) 0 it acc env).onRaise (fun x => do noteFrame x env; theTreesLotGoes x)) _ _ s
  refine wpAny_noted ?_
  rw [compTurn_list]
  refine wpAny_bind (wpAny_standAt (wpAny_bind (wpAny_mono (turn n s hI) (fun r s₁ h₁ => ?_) fun _ _ h' => h')))
  cases r with
  | none => exact wpAny_pure h₁
  | some v =>
    refine wpAny_bind (wpAny_mono h₁ (fun _ s₁' h₁' => ?_) fun _ _ h' => h')
    refine wpAny_bind (wpAny_mono h₁' (fun _ s₂ h₂ => wpAny_bind (wpAny_mono h₂ (fun ok s₃ h₃ => ?_) fun _ _ h' => h')) fun _ _ h' => h')
    cases ok with
    | false => exact wpAny_pure ⟨rfl, h₃⟩
    | true =>
      exact wpAny_bind (wpAny_bind (wpAny_mono h₃ (fun x s₄ h₄ => wpAny_bind (wpAny_mono h₄ (fun _ s₅ h₅ => wpAny_pure (wpAny_pure ⟨rfl, h₅⟩)) fun _ _ h' => h')) fun _ _ h' => h'))
section
variable {X : Cx}
/-- [elt for target in iter if ..]: D the new list; W by the turn and a measure, Nx what a turn is to reach -/
def tLc (wi : TI) (g : TG) (tt : TT) (te : TE) (vs : List Nat) : TE := fun σ H Q => wi σ H fun J H1 => ∀ D, H1 D = none → ∃ W : Nat → Nat → Hp → Prop, (∃ m, W 0 m (upd H1 D (.lst []))) ∧ ∀ i m H, W i m H →
  (J.stop i H ∧ Q (.ref D) H) ∨ (J.go i H ∧ ∃ Nx : Hp → Prop, (∀ H', Nx H' → ∃ m', m' < m ∧ W (i + 1) m' H') ∧ ∀ x H', J.yld i H x H' → g x (wipe σ vs) H' fun σ2 H2 => wipe σ2 vs = wipe σ vs ∧ tt σ2 H2 fun b H3 =>
    if b = true then te σ2 H3 fun y H4 => ∃ acc, H4 D = some (.lst acc) ∧ acc.length < sizeLine ∧ Nx (upd H4 D (.lst (acc ++ [y]))) else Nx H3)
theorem lc_core {pins : List (Addr × Obj)} {s : Shared} {σ : St} {H : Hp} {Q : VK} {elt tg iter : Expr} {ifs : List Expr} {scope : Scope} {own : List (Str × Nat)} {pos pos' : Pos} {wi : TI} {g : TG} {tt : TT} {te : TE} {use : Option (Value → Sem Unit)} {Qf : Value → Shared → Prop}
    (hc : X.calm = true) (hN : X.N.Nodup) (I : Inv X pins σ H s) (hi : PI X tg iter wi) (ok : BlkOk X.N X.env.scope scope own)
    (hg : ∀ (s : Shared) (H : Hp) (C : Addr) (cl : List (Str × Addr)) (fp : List Addr), PG (X.blk s H scope (compEnvC scope cl C X.env) fp) tg g) (ht : ∀ (s : Shared) (H : Hp) (C : Addr) (cl : List (Str × Addr)) (fp : List Addr), PTs (X.blk s H scope (compEnvC scope cl C X.env) fp) ifs tt)
    (he : ∀ (s : Shared) (H : Hp) (C : Addr) (cl : List (Str × Addr)) (fp : List Addr), PE (X.blk s H scope (compEnvC scope cl C X.env) fp) elt te) (hs : ∀ x, foldedSetIterable iter X.env x = pure x)
    (h : tLc wi g tt te (own.map (·.2)) σ H Q)
    (hRR : ∀ D C s' m H', Inv X pins σ H' s' → Q (.ref D) H' → s'.heap.Ns C m → FpOk X pins H' C → compPost (model X.prog X.w) X.A X.xe use Qf (.ref D) C (.ok .next) s') :
    wpAny (model X.prog X.w) X.A (comprehension (.ListComp elt [⟨tg, iter, ifs, 0⟩] scope pos) scope X.env pos' (newList []) false (eval iter X.env) use) Qf X.xe s := by
  have hfree : ∀ y ∈ scope.names, y.2 = .free → ∃ c, X.env.cells.lookup y.1 = some c := fun y hy e => by
    rcases ok.free y hy e with k | k
    · exact I.ok.has _ (.inl k)
    · exact I.ok.has _ (.inr k)
  refine wpAny_comprehension_free (use := use) rfl hs (closure_ok hfree) ok.kind (fun y hy e => by rw [ok.uniq y hy, e])
    (thn (hi pins s σ H _ I h) fun xv s1 hx => thn hx fun itv s2 h2 => ?_)
  obtain ⟨it, fp, tn, J, H2, e, I2, T, st2, f2, q⟩ := h2
  subst e
  refine wpAny_newObj_type (newEnv_comp ?_) (by show 0 ≤ sizeLine; decide)
  generalize hD : s2.heap.objs.size = D
  have hDn : H2 D = none := I2.hok.fresh (Nat.le_of_eq hD)
  obtain ⟨W, ⟨m0, w0⟩, turn⟩ := q D hDn
  -- the new list
  generalize hs3 : ({ s2 with heap := s2.heap.push { cls := .type "list", data := .seq ([] : List Value).toArray } } : Shared) = s3
  have I3 : Inv X pins σ (upd H2 D (.lst [])) s3 := by
    rw [← hs3]
    refine I2.laid (t' := s2.toks) (fun b o e => Heap.get?_push_of_some _ e) (Nat.le_of_eq hD) ⟨Nat.zero_le _, [], 0, .nil, ?_⟩
    rw [← hD]
    exact Heap.get?_push_size _ rfl
  have h3 : s3.heap = s2.heap.push { cls := .type "list", data := .seq ([] : List Value).toArray } := by rw [← hs3]
  have sz : ∀ b ∈ fp, b < s2.heap.objs.size := fun b hb => by
    obtain ⟨o, e, _⟩ := T.obj _ _ st2 b hb
    exact Heap.lt_size e
  have f3 : ∀ b ∈ fp, FpOk X pins (upd H2 D (.lst [])) b ∧ b < s3.heap.objs.size := fun b hb => by
    have hlt := sz b hb
    refine ⟨⟨?_, (f2 b hb).2⟩, by rw [h3, Heap.size_push]; exact Nat.lt_succ_of_lt hlt⟩
    rw [upd_ne (by rw [← hD]; exact Nat.ne_of_lt hlt)]
    exact (f2 b hb).1
  have st3 : tn 0 s3.heap := T.keep _ _ _ st2 fun b _ o e => by rw [h3]; exact Heap.get?_push_of_some _ e
  have I4 := block_start I3 ok hN f3
  have pg := hg s3 (upd H2 D (.lst [])) s3.heap.objs.size (cellsFrom (s3.heap.objs.size + 1) scope.names (cloFrom X.env.cells scope.names [])) fp
  have pt := ht s3 (upd H2 D (.lst [])) s3.heap.objs.size (cellsFrom (s3.heap.objs.size + 1) scope.names (cloFrom X.env.cells scope.names [])) fp
  have pe := he s3 (upd H2 D (.lst [])) s3.heap.objs.size (cellsFrom (s3.heap.objs.size + 1) scope.names (cloFrom X.env.cells scope.names [])) fp
  show codeAny _ _ (.compStart (.ListComp elt [⟨tg, iter, ifs, 0⟩] scope pos) 0 (.ref it) (.ref D) (compEnvC scope (cellsFrom (s3.heap.objs.size + 1) scope.names (cloFrom X.env.cells scope.names [])) s3.heap.objs.size X.env)) (compPost (model X.prog X.w) X.A X.xe use Qf (.ref D) s3.heap.objs.size) { s3 with heap := pushCells (s3.heap.push { cls := .type "dict", data := .dict #[] }) scope.names }
  have nfp : ∀ b ∈ fp, (upd H2 D (.lst [])) b = none := fun b hb => (f3 b hb).1.1
  generalize hce : compEnvC scope (cellsFrom (s3.heap.objs.size + 1) scope.names (cloFrom X.env.cells scope.names [])) s3.heap.objs.size X.env = ce at I4 pg pt pe ⊢
  have cL : ce.locals = s3.heap.objs.size := by subst hce; rfl
  generalize hH3 : upd H2 D (.lst []) = H3 at I3 I4 pg pt pe w0 nfp f3
  generalize hs4 : ({ s3 with heap := pushCells (s3.heap.push { cls := .type "dict", data := .dict #[] }) scope.names } : Shared) = s4 at I4 ⊢
  have st4 : tn 0 s4.heap := T.keep _ _ _ st3 fun b _ o e => by rw [← hs4]; exact pushCells_keeps _ _ _ _ (Heap.get?_push_of_some _ e)
  have stat : ∀ {σ' : St} {H' : Hp} {s' : Shared}, Inv (X.blk s3 H3 scope ce fp) [] σ' H' s' → (∀ b ∈ fp, H' b = none) → ∀ b ∈ fp, FpOk (X.blk s3 H3 scope ce fp) [] H' b := fun {σ' H' s'} I' hn b hb =>
    ⟨hn b hb, (I'.ok.exf b hb).1, I'.ok.exfs b hb, .inl hb, fun x c e => (I'.ok.exf b hb).2 x c e, fun p hp => absurd (show p ∈ ([] : List (Addr × Obj)) ++ [] from hp) (by simp)⟩
  have loop : codeAny (model X.prog X.w) X.A (.compLoop (.ListComp elt [⟨tg, iter, ifs, 0⟩] scope pos) 0 (.ref it) (.ref D) ce) (compPost (model X.prog X.w) X.A X.xe use Qf (.ref D) s3.heap.objs.size) s4 := by
    refine compLoop_any (fun n s' => ∃ i H', Inv (X.blk s3 H3 scope ce fp) [] (wipe σ (own.map (·.2))) H' s' ∧ tn i s'.heap ∧ (∀ b ∈ fp, H' b = none) ∧ W i n H') ?_ m0 ⟨0, H3, I4, st4, nfp, w0⟩
    rintro n s5 ⟨i, H5, I5, st5, n5, w5⟩
    rcases turn i n H5 w5 with ⟨stop, qq⟩ | ⟨go, Nx, hNx, step⟩
    · have td := T.done (X.blk s3 H3 scope ce fp) rfl rfl rfl hc i [] s5 _ H5 (fun _ _ => False) I5 (stat I5 n5) st5 stop
      refine thnF td fun r s6 ⟨hr, I6⟩ => ?_
      subst hr
      -- back in the def's context
      have I7 : Inv X pins σ H5 s6 := I3.call' (ch := fp) I6.os I6.base I6.hok I6.bare fun b hb => ⟨(f3 b hb).1.2.2.2.1, (f3 b hb).1.2.1, (f3 b hb).1.2.2.2.2.1, (f3 b hb).1.2.2.2.2.2⟩
      have nC : H5 s3.heap.objs.size = none := by
        have z : H5 ce.locals = none := I6.free
        rw [cL] at z
        exact z
      obtain ⟨m, hn, _⟩ := I6.loc
      have hn : s6.heap.Ns ce.locals m := hn
      rw [cL] at hn
      exact hRR D s3.heap.objs.size s6 m H5 I7 qq hn (I3.fpOk (Nat.le_refl _) nC)
    · have ti := T.item (X.blk s3 H3 scope ce fp) rfl rfl rfl hc i [] s5 _ H5 (fun _ _ => False) I5 (stat I5 n5) st5 go
      refine thnF ti fun r s6 ⟨u, hr, h6⟩ => ?_
      subst hr
      refine thnF h6 fun _ s7 ⟨x, H7, I7, r7, y7, st7, n7⟩ => ?_
      have I7' := I7.pinned (stat I7 n7) (T.obj _ _ st7)
      refine thnF (pg _ s7 _ H7 x u _ I7' r7 (step x H7 y7)) fun _ s8 ⟨σ8, H8, I8, hw8, q8⟩ => ?_
      refine thnF (pt _ s8 σ8 H8 _ I8 q8) fun b s9 ⟨H9, I9, q9⟩ => ?_
      -- the turn's end
      have fin : ∀ {s' : Shared} {H' : Hp}, Inv (X.blk s3 H3 scope ce fp) ([] ++ pinsAt fp s7.heap) σ8 H' s' → Nx H' → ∃ m, m < n ∧ ∃ i H', Inv (X.blk s3 H3 scope ce fp) [] (wipe σ (own.map (·.2))) H' s' ∧ tn i s'.heap ∧ (∀ b ∈ fp, H' b = none) ∧ W i m H' := fun {s' H'} I' nx => by
        obtain ⟨m', hm, w'⟩ := hNx H' nx
        have pin' : ∀ b ∈ fp, ∀ o, s7.heap.get? b = some o → s'.heap.get? b = some o ∧ H' b = none := fun b hb o e =>
          let z := I'.pin (b, o) (List.mem_append_right _ (List.mem_append_right _ (mem_pinsAt hb e)))
          ⟨z.1, z.2.1⟩
        have hl : (wipe σ (own.map (·.2))).length = σ8.length := by rw [← hw8, wipe_length]
        refine ⟨m', hm, i + 1, H', (I'.unpinned (pins := [])).weak hl (fun j v e => ?_), T.keep _ _ _ st7 fun b hb o e => (pin' b hb o e).1, fun b hb => ?_, w'⟩
        · rw [← hw8] at e
          exact (wipe_some e).1
        · obtain ⟨o, e, _⟩ := T.obj _ _ st7 b hb
          exact (pin' b hb o e).2
      cases b with
      | false =>
        simp only [Bool.false_eq_true, if_false] at q9 ⊢
        exact fin I9 q9
      | true =>
        simp only [if_true] at q9 ⊢
        refine thnF (pe _ s9 σ8 H9 _ I9 q9) fun z s10 ⟨yv, H10, I10, r10, acc, hD10, hz10, nx⟩ => ?_
        exact app_ok (X := X.blk s3 H3 scope ce fp) I10 hD10 hz10 r10 fun s11 I11 => fin I11 nx
  exact codeAny_compStart_list loop (T.self X.A 0 _ _ _ st4 loop)
/-- as a value -/
theorem pe_lc {elt tg iter : Expr} {ifs : List Expr} {scope : Scope} {own : List (Str × Nat)} {pos : Pos} {wi : TI} {g : TG} {tt : TT} {te : TE} (hc : X.calm = true) (hN : X.N.Nodup) (hi : PI X tg iter wi) (ok : BlkOk X.N X.env.scope scope own)
    (hg : ∀ (s : Shared) (H : Hp) (C : Addr) (cl : List (Str × Addr)) (fp : List Addr), PG (X.blk s H scope (compEnvC scope cl C X.env) fp) tg g) (ht : ∀ (s : Shared) (H : Hp) (C : Addr) (cl : List (Str × Addr)) (fp : List Addr), PTs (X.blk s H scope (compEnvC scope cl C X.env) fp) ifs tt)
    (he : ∀ (s : Shared) (H : Hp) (C : Addr) (cl : List (Str × Addr)) (fp : List Addr), PE (X.blk s H scope (compEnvC scope cl C X.env) fp) elt te) (hs : ∀ x, foldedSetIterable iter X.env x = pure x := by intro _; rfl) :
    PE X (.ListComp elt [⟨tg, iter, ifs, 0⟩] scope pos) (tLc wi g tt te (own.map (·.2))) := by
  intro pins s σ H Q I h
  rw [eval_ListComp]
  refine lc_core hc hN I hi ok hg ht he hs h fun D C s' m H' I' q hn f => ⟨m, hn, fun h'' sb => ?_⟩
  obtain ⟨f0, f1, f2, f3, f4, f5⟩ := f
  exact ⟨.ref D, H', I'.turned (t' := s'.toks) (fun b o hb e => (sb.2 b hb).trans e) f0 f1 f3 f4 f5, rfl, q⟩
end
/-- over a range: Pv by the turn and the heap (the new list at D within) -/
theorem lc_range {lo : Int} {n : Nat} {g : TG} {tt : TT} {te : TE} {vs : List Nat} {σ : St} {H1 : Hp} {D : Addr} {Qd : Hp → Prop} (Pv : Nat → Hp → Prop) (h0 : Pv 0 (upd H1 D (.lst [])))
    (hs : ∀ i H, i < n → Pv i H → g (.int (lo + i)) (wipe σ vs) H fun σ2 H2 => wipe σ2 vs = wipe σ vs ∧ tt σ2 H2 fun b H3 =>
      if b = true then te σ2 H3 fun y H4 => ∃ acc, H4 D = some (.lst acc) ∧ acc.length < sizeLine ∧ Pv (i + 1) (upd H4 D (.lst (acc ++ [y]))) else Pv (i + 1) H3) (hd : ∀ H, Pv n H → Qd H) :
    ∃ W : Nat → Nat → Hp → Prop, (∃ m, W 0 m (upd H1 D (.lst []))) ∧ ∀ i m H, W i m H →
      ((Itr lo n).stop i H ∧ Qd H) ∨ ((Itr lo n).go i H ∧ ∃ Nx : Hp → Prop, (∀ H', Nx H' → ∃ m', m' < m ∧ W (i + 1) m' H') ∧ ∀ x H', (Itr lo n).yld i H x H' → g x (wipe σ vs) H' fun σ2 H2 => wipe σ2 vs = wipe σ vs ∧ tt σ2 H2 fun b H3 =>
        if b = true then te σ2 H3 fun y H4 => ∃ acc, H4 D = some (.lst acc) ∧ acc.length < sizeLine ∧ Nx (upd H4 D (.lst (acc ++ [y]))) else Nx H3) := by
  refine ⟨fun i m H => m = n - i ∧ i ≤ n ∧ Pv i H, ⟨n, by simp, Nat.zero_le _, h0⟩, ?_⟩
  rintro i m H ⟨rfl, hi, p⟩
  by_cases hlt : i < n
  · refine .inr ⟨hlt, Pv (i + 1), fun H' p' => ⟨n - (i + 1), by omega, rfl, hlt, p'⟩, fun x H' y => ?_⟩
    obtain ⟨e, y⟩ := y
    subst e y
    exact hs i _ hlt p
  · have e : i = n := by omega
    subst e
    exact .inl ⟨Nat.le_refl _, hd H p⟩
def blkC (N : List Str) (sc scope : Scope) (own : List (Str × Nat)) : Bool :=
  (match scope.kind with | .function => true | _ => false) && (scope.names.all fun y => decide (scope.names.lookup y.1 = some y.2)) && (own.all fun p => decide (N[p.2]? = some p.1)) &&
    (scope.names.all fun y => match y.2 with
      | .free => (match sc.names.lookup y.1 with | some .cell => true | some .free => true | _ => false)
      | .local => decide (y.1 ∈ own.map (·.1)) || decide (y.1 ∉ N)
      | .cell => decide (y.1 ∈ own.map (·.1)) || decide (y.1 ∉ N)
      | _ => true)
theorem blkOk_by {N : List Str} {sc scope : Scope} {own : List (Str × Nat)} (h : blkC N sc scope own = true) : BlkOk N sc scope own := by
  unfold blkC at h
  simp only [Bool.and_eq_true, List.all_eq_true, decide_eq_true_eq] at h
  obtain ⟨⟨⟨h1, h2⟩, h3⟩, h4⟩ := h
  refine ⟨?_, h2, h3, fun y hy e => ?_, fun y hy e => ?_⟩
  · split at h1
    · assumption
    · cases h1
  · have q := h4 y hy
    simp only [e] at q
    split at q <;> first | exact .inl (by assumption) | exact .inr (by assumption) | cases q
  · have q := h4 y hy
    rcases e with e | e <;> (simp only [e, Bool.or_eq_true, decide_eq_true_eq] at q; exact q)
end L2
namespace L2
open PySem PySem.Spec PyProof.Rows
section
variable {prog : Program} {w : World} {A : Around} {R : Result → Shared → Prop} {s : Shared} {elt t0 i0 t1 i1 : Expr} {ifs0 ifs1 : List Expr} {scope : Scope} {pos : Pos} {it acc : Value} {env : Env}
end
section
variable {X : Cx}
end
end L2
namespace L2
open PySem PySem.Spec PyProof.Rows
section
variable {κ : Type} [DecidableEq κ]
def valV (kvs : List (κ × V)) (k : κ) : Option V := (kvs.find? fun kv => decide (kv.1 = k)).map (·.2)
/-- in its place, or at the end -/
def putK (kvs : List (κ × V)) (k : κ) (v : V) : List (κ × V) :=
  if (kvs.any fun kv => decide (kv.1 = k)) = true then kvs.map (fun kv => if kv.1 = k then (kv.1, v) else kv) else kvs ++ [(k, v)]
def dropK (kvs : List (κ × V)) (k : κ) : List (κ × V) := kvs.filter fun kv => decide (kv.1 ≠ k)
theorem valV_pos {p : κ × V} {r : List (κ × V)} {k : κ} (e : p.1 = k) : valV (p :: r) k = some p.2 := by simp [valV, List.find?_cons, e]
theorem valV_neg {p : κ × V} {r : List (κ × V)} {k : κ} (e : ¬ p.1 = k) : valV (p :: r) k = valV r k := by simp [valV, List.find?_cons, e]
theorem valV_any (k : κ) : ∀ kvs : List (κ × V), (kvs.any fun kv => decide (kv.1 = k)) = (valV kvs k).isSome
  | [] => rfl
  | p :: r => by
    rw [List.any_cons]
    by_cases e : p.1 = k
    · simp only [valV_pos e, decide_eq_true e, Bool.true_or, Option.isSome_some]
    · rw [valV_neg e, decide_eq_false e, Bool.false_or]; exact valV_any k r
theorem RelO.isSome_eq {o : Option V} {u : Option Value} (r : RelO o u) : o.isSome = u.isSome := by
  cases o with
  | none => cases u with
    | none => rfl
    | some _ => exact (show False from r).elim
  | some _ => cases u with
    | none => exact (show False from r).elim
    | some _ => rfl
theorem RelO.getD {o : Option V} {u : Option Value} {d : V} {d' : Value} (r : RelO o u) (rd : RelV d d') : RelV (o.getD d) (u.getD d') := by
  cases o with
  | none => cases u with
    | none => exact rd
    | some _ => exact (show False from r).elim
  | some _ => cases u with
    | none => exact (show False from r).elim
    | some _ => exact r
/-- raw tables of the same keys -/
theorem KV.val {kvs : List (κ × V)} {vs : List (κ × Value)} (r : KV kvs vs) (k : κ) : RelO (valV kvs k) (valueAt vs k) := by
  unfold KV at r
  induction r with
  | nil => exact True.intro
  | @cons p q ps qs h t ih =>
    obtain ⟨h1, h2⟩ := h
    by_cases e : p.1 = k
    · have e' : q.1 = k := h1.symm.trans e
      have b : valueAt (q :: qs) k = some q.2 := by simp [valueAt, List.find?_cons, e']
      rw [valV_pos e, b]; exact h2
    · have e' : ¬ q.1 = k := fun z => e (h1.trans z)
      have b : valueAt (q :: qs) k = valueAt qs k := by simp [valueAt, List.find?_cons, e']
      rw [valV_neg e, b]; exact ih
theorem KV.any {kvs : List (κ × V)} {vs : List (κ × Value)} (r : KV kvs vs) (k : κ) : (kvs.any fun kv => decide (kv.1 = k)) = vs.any fun kv => decide (kv.1 = k) := by
  unfold KV at r
  induction r with
  | nil => rfl
  | cons h t ih => rw [List.any_cons, List.any_cons, ih, h.1]
theorem KV.repl {kvs : List (κ × V)} {vs : List (κ × Value)} (r : KV kvs vs) (k : κ) {y : V} {u : Value} (ry : RelV y u) :
    KV (kvs.map fun kv => if kv.1 = k then (kv.1, y) else kv) (vs.map fun kv => if kv.1 = k then (kv.1, u) else kv) := by
  unfold KV at r ⊢
  induction r with
  | nil => exact .nil
  | @cons p q ps qs h t ih =>
    rw [List.map_cons, List.map_cons]
    refine .cons ?_ ih
    obtain ⟨h1, h2⟩ := h
    by_cases e : p.1 = k
    · rw [if_pos e, if_pos (h1.symm.trans e)]; exact ⟨h1, ry⟩
    · rw [if_neg e, if_neg (fun z => e (h1.trans z))]; exact ⟨h1, h2⟩
theorem KV.put {kvs : List (κ × V)} {vs : List (κ × Value)} (r : KV kvs vs) (k : κ) {y : V} {u : Value} (ry : RelV y u) : KV (putK kvs k y) (stored vs k u) := by
  unfold putK stored
  rw [r.any k]
  by_cases e : (vs.any fun kv => decide (kv.1 = k)) = true
  · rw [if_pos e, if_pos e]; exact r.repl k ry
  · rw [if_neg e, if_neg e]; exact Paired.snoc r ⟨rfl, ry⟩
theorem KV.drop {kvs : List (κ × V)} {vs : List (κ × Value)} (r : KV kvs vs) (k : κ) : KV (dropK kvs k) (without vs k) := by
  unfold KV at r ⊢
  unfold dropK without
  induction r with
  | nil => exact .nil
  | @cons p q ps qs h t ih =>
    obtain ⟨h1, h2⟩ := h
    rw [List.filter_cons, List.filter_cons]
    by_cases e : p.1 = k
    · have a : ¬ decide (p.1 ≠ k) = true := by simp [e]
      have b : ¬ decide (q.1 ≠ k) = true := by simp [h1.symm.trans e]
      rw [if_neg a, if_neg b]; exact ih
    · have e' : ¬ q.1 = k := fun z => e (h1.trans z)
      have a : decide (p.1 ≠ k) = true := by simp [e]
      have b : decide (q.1 ≠ k) = true := by simp [e']
      rw [if_pos a, if_pos b]; exact .cons ⟨h1, h2⟩ ih
theorem KV.keys {kvs : List (κ × V)} {vs : List (κ × Value)} (r : KV kvs vs) : kvs.map (·.1) = vs.map (·.1) := by
  unfold KV at r
  induction r with
  | nil => rfl
  | cons h t ih => rw [List.map_cons, List.map_cons, ih, h.1]
theorem KV.length {kvs : List (κ × V)} {vs : List (κ × Value)} (r : KV kvs vs) : kvs.length = vs.length := Paired.length r
end
/-- raw entries of a dict with tuple keys -/
abbrev KT (H : Hp) : List (List Key × V) → List (List Key × Addr × Value) → Prop := Paired fun p q => p.1 = q.1 ∧ H q.2.1 = some (.tup (p.1.map kV)) ∧ RelV p.2 q.2.2
theorem KT.val {H : Hp} {kvs : List (List Key × V)} {xs : List (List Key × Addr × Value)} (r : KT H kvs xs) (k : List Key) : RelO (valV kvs k) ((atKey xs k).map (·.2)) := by
  induction r with
  | nil => exact True.intro
  | @cons p q ps qs h t ih =>
    obtain ⟨h1, _, h2⟩ := h
    by_cases e : p.1 = k
    · have e' : q.1 = k := h1.symm.trans e
      have b : atKey (q :: qs) k = some q.2 := by simp [atKey, List.find?_cons, e']
      rw [valV_pos e, b]; exact h2
    · have e' : ¬ q.1 = k := fun z => e (h1.trans z)
      have b : atKey (q :: qs) k = atKey qs k := by simp [atKey, List.find?_cons, e']
      rw [valV_neg e, b]; exact ih
theorem KT.repl {H : Hp} {kvs : List (List Key × V)} {xs : List (List Key × Addr × Value)} (r : KT H kvs xs) (k : List Key) {y : V} {u : Value} (ry : RelV y u) :
    KT H (kvs.map fun kv => if kv.1 = k then (kv.1, y) else kv) (xs.map (putAt k u)) := by
  induction r with
  | nil => exact .nil
  | @cons p q ps qs h t ih =>
    rw [List.map_cons, List.map_cons]
    refine .cons ?_ ih
    obtain ⟨h1, h2, h3⟩ := h
    unfold putAt
    by_cases e : p.1 = k
    · rw [if_pos e, if_pos (h1.symm.trans e)]; exact ⟨h1, h2, ry⟩
    · rw [if_neg e, if_neg (fun z => e (h1.trans z))]; exact ⟨h1, h2, h3⟩
theorem KT.put {H : Hp} {kvs : List (List Key × V)} {xs : List (List Key × Addr × Value)} (r : KT H kvs xs) (k : List Key) {b : Addr} {y : V} {u : Value} (hb : H b = some (.tup (k.map kV))) (ry : RelV y u) :
    KT H (putK kvs k y) (storedH xs k b u) := by
  have e : (kvs.any fun kv => decide (kv.1 = k)) = (atKey xs k).isSome := by
    rw [valV_any, (r.val k).isSome_eq, Option.isSome_map]
  unfold putK storedH
  rw [e]
  by_cases q : (atKey xs k).isSome = true
  · rw [if_pos q, if_pos q]; exact r.repl k ry
  · rw [if_neg q, if_neg q]; exact Paired.snoc r ⟨rfl, hb, ry⟩
theorem KT.keeps {H H' : Hp} {kvs : List (List Key × V)} {xs : List (List Key × Addr × Value)} (r : KT H kvs xs) (ht : ∀ b ys, H b = some (.tup ys) → H' b = some (.tup ys)) : KT H' kvs xs :=
  Paired.mapP r fun _ _ z => ⟨z.1, ht _ _ z.2.1, z.2.2⟩
section
variable {P : Program} {w : World} {H : Hp} {h : Heap} {a : Addr}
end
/-- what the dict at a holds at the key y -/
def DGet (H : Hp) (a : Addr) (y : V) (r : Option V) : Prop :=
  (∃ kvs k, Rd H a (.dK kvs) ∧ y = kV k ∧ r = valV kvs k) ∨ ∃ kvs k b, Rd H a (.dT kvs) ∧ y = .ref b ∧ H b = some (.tup (k.map kV)) ∧ r = valV kvs k
/-- the heap behind a[y] = v -/
def DPut (H : Hp) (a : Addr) (y v : V) (H' : Hp) : Prop :=
  (∃ kvs k, H a = some (.dK kvs) ∧ y = kV k ∧ kvs.length < sizeLine ∧ H' = upd H a (.dK (putK kvs k v))) ∨
  ∃ kvs k b, H a = some (.dT kvs) ∧ y = .ref b ∧ H b = some (.tup (k.map kV)) ∧ kvs.length < sizeLine ∧ H' = upd H a (.dT (putK kvs k v))
theorem DGet.k {H : Hp} {a : Addr} {kvs : List (Key × V)} {k : Key} (e : H a = some (.dK kvs)) : DGet H a (kV k) (valV kvs k) := .inl ⟨kvs, k, .inl e, rfl, rfl⟩
theorem DGet.t {H : Hp} {a b : Addr} {kvs : List (List Key × V)} {k : List Key} (e : H a = some (.dT kvs)) (eb : H b = some (.tup (k.map kV))) : DGet H a (.ref b) (valV kvs k) := .inr ⟨kvs, k, b, .inl e, rfl, eb, rfl⟩
theorem DPut.k {H : Hp} {a : Addr} {kvs : List (Key × V)} {k : Key} {v : V} (e : H a = some (.dK kvs)) (hl : kvs.length < sizeLine) : DPut H a (kV k) v (upd H a (.dK (putK kvs k v))) := .inl ⟨kvs, k, e, rfl, hl, rfl⟩
theorem DPut.t {H : Hp} {a b : Addr} {kvs : List (List Key × V)} {k : List Key} {v : V} (e : H a = some (.dT kvs)) (eb : H b = some (.tup (k.map kV))) (hl : kvs.length < sizeLine) :
    DPut H a (.ref b) v (upd H a (.dT (putK kvs k v))) := .inr ⟨kvs, k, b, e, rfl, eb, hl, rfl⟩
section
variable {X : Cx} {pins : List (Addr × Obj)} {σ : St} {H : Hp} {s : Shared} {a : Addr} {y v : V} {u r : Value} {o : Option V} {A : Around} {E : Value → Shared → Prop}
end
section
variable {X : Cx} {pins : List (Addr × Obj)} {σ : St} {H : Hp} {s : Shared} {a : Addr} {kvs : List (Key × V)} {k : Key} {u : Value} {A : Around} {E : Value → Shared → Prop}
end
section
variable {X : Cx} {o i e value : Expr} {pos pos' tpos : Pos} {td ty tv : TE}
end
section
variable {X : Cx} {pos : Pos}
end
section
variable {X : Cx} {pins : List (Addr × Obj)} {σ : St} {H : Hp} {s : Shared} {a : Addr} {y d : V} {u r : Value} {o : Option V} {A : Around} {E : Value → Shared → Prop}
end
section
variable {X : Cx} {o e f : Expr} {apos cpos : Pos} {td ty tx : TE}
end
section
variable {X : Cx} {pins : List (Addr × Obj)} {σ : St} {H : Hp} {s : Shared} {a : Addr} {kvs : List (Key × V)} {A : Around} {E : Value → Shared → Prop}
end
section
variable {X : Cx} {pins : List (Addr × Obj)} {σ : St} {H : Hp} {s : Shared} {a : Addr} {y : V} {u : Value} {A : Around} {E : Value → Shared → Prop}
end
end L2
namespace L2
open PySem PySem.Spec PyProof.Rows
section
variable {prog : Program} {w : World} {A : Around} {E : Value → Shared → Prop}
end
section
variable {X : Cx}
end
end L2
namespace L2
open PySem PySem.Spec PyProof.Rows
theorem boot_reversed5 : bootBuiltins "reversed" = some (.type "reversed") := by decide +kernel
section
variable {X : Cx} {pins : List (Addr × Obj)} {σ : St} {H : Hp} {s : Shared} {h' : Heap}
/-- several records of ours have turned -/
theorem Inv.turnedL {t' : Nat} {ch : List Addr} (I : Inv X pins σ H s) (k : ∀ b o, b ∉ ch → s.heap.get? b = some o → h'.get? b = some o) (hf : ∀ b ∈ ch, FpOk X pins H b) : Inv X pins σ H { s with heap := h', toks := t' } := by
  have nit : ∀ b u, H b = some u → b ∉ ch := fun b u e z => by
    have q := (hf b z).1
    rw [q] at e; cases e
  refine I.step (g' := s.gens) (d' := s.drawn) (ch := ch) (fun b hb => ⟨(hf b hb).2.2.2.1, (hf b hb).2.1, (hf b hb).2.2.2.2.1, (hf b hb).2.2.2.2.2⟩) (fun b o _ _ hc e _ => k b o hc e) (fun b o _ _ hc e _ => ⟨o.slots, k b o hc e⟩)
    (fun _ _ _ _ n => n) (fun b o hc e => ⟨o, k b o hc e⟩) (fun _ _ e => e) (fun _ _ _ e => e) (fun b ps e => ⟨#[], by rw [e]; simp⟩) (fun m hm => ?_) (fun b u e => ?_) I.bare
  · obtain ⟨o, es, ep, ho, r⟩ := hm
    exact ⟨o, es, ep, k _ o (fun z => (hf _ z).2.1 rfl) ho, r⟩
  · refine (I.hok b u e).stay (fun c v hc q => k c v ?_ q) (fun _ q => q) fun _ _ q => q
    rcases hc with z | z
    · rw [z]; exact nit b u e
    · exact nit c _ z
/-- .. and one new object is laid -/
theorem Inv.turnedNew {t' : Nat} {ch : List Addr} {T : Addr} {ob : HO} (I : Inv X pins σ H s) (k : ∀ b o, b ∉ ch → s.heap.get? b = some o → h'.get? b = some o) (hf : ∀ b ∈ ch, FpOk X pins H b) (hT : s.heap.objs.size ≤ T)
    (new : ObjOk X.prog X.w (upd H T ob) h' T ob) : Inv X pins σ (upd H T ob) { s with heap := h', toks := t' } := by
  have hn : H T = none := I.hok.fresh hT
  have nit : ∀ b u, H b = some u → b ∉ ch := fun b u e z => by
    have q := (hf b z).1
    rw [q] at e; cases e
  refine I.step (g' := s.gens) (d' := s.drawn) (ch := ch) (fun b hb => ⟨(hf b hb).2.2.2.1, (hf b hb).2.1, (hf b hb).2.2.2.2.1, (hf b hb).2.2.2.2.2⟩) (fun b o _ _ hc e _ => k b o hc e) (fun b o _ _ hc e _ => ⟨o.slots, k b o hc e⟩)
    (fun b o _ e n => ?_) (fun b o hc e => ⟨o, k b o hc e⟩) (fun b xs e => ?_) (fun b o u e => ?_) (fun b ps e => ⟨#[], ?_⟩) (fun m hm => ?_) (fun b u e => ?_) I.bare
  · rw [upd_ne (Nat.ne_of_lt (Nat.lt_of_lt_of_le (Heap.lt_size e) hT))]; exact n
  · rw [upd_ne (ne_of_none e hn)]; exact e
  · rw [upd_ne (ne_of_none e hn)]; exact e
  · rw [upd_ne (ne_of_none e hn), e]; simp
  · obtain ⟨o, es, ep, ho, r⟩ := hm
    exact ⟨o, es, ep, k _ o (fun z => (hf _ z).2.1 rfl) ho, r⟩
  · by_cases hb : b = T
    · subst hb
      rw [upd_same] at e
      cases e
      exact new
    · rw [upd_ne hb] at e
      refine (I.hok b u e).stay (fun c v hc q => k c v ?_ q) (fun c q => by rw [upd_ne (ne_of_none q hn)]; exact q) fun c xs q => by rw [upd_ne (ne_of_none q hn)]; exact q
      rcases hc with z | z
      · rw [z]; exact nit b u e
      · exact nit c _ z
end
section
variable {X : Cx}
theorem pi_one {tg : Expr} {pins : List (Addr × Obj)} {σ : St} {H : Hp} {s : Shared} {R : It → Hp → Prop} {J : It} {tn : Nat → Heap → Prop} {tk : Nat} (I : Inv X pins σ H s) (o : Obj)
    (T : Turn X.prog X.w X.K tg J [s.heap.objs.size] s.heap.objs.size tn) (st : tn 0 (s.heap.push o)) (q : R J H) : PIE X pins σ tg R (.ref s.heap.objs.size) { s with heap := s.heap.push o, toks := tk } := by
  refine ⟨s.heap.objs.size, [s.heap.objs.size], tn, J, H, rfl, I.kept fun b ob e => Heap.get?_push_of_some _ e, T, st, fun b hb => ?_, q⟩
  have e : b = s.heap.objs.size := by simpa using hb
  subst e
  exact I.fpOk (Nat.le_refl _) (I.hok.fresh (Nat.le_refl _))
end
section
variable {X : Cx} {tg : Expr}
end
/-- the list at a (n items at the start, which the loop leaves there), from its end -/
def Itv (K : PySem.W.Frag) (a : Addr) (n : Nat) : It :=
  ⟨fun i H => i < n ∧ ∃ (xs : List V) (x : V), SqL K H a xs ∧ xs[n - 1 - i]? = some x, fun i H x H' => H' = H ∧ ∀ xs, SqL K H a xs → xs[n - 1 - i]? = some x, fun i _ => n ≤ i⟩
theorem turn_rev {P : Program} {w : World} {K : PySem.W.Frag} {tg : Expr} (a it : Addr) (n : Nat) : Turn P w K tg (Itv K a n) [it] it (fun i h => i ≤ n ∧ h.IsRevIter it a ((n : Int) - 1 - (i : Nat))) where
  mem := by simp
  obj := fun i h st b hb => by
    have e : b = it := by simpa using hb
    subst e
    obtain ⟨_, o, e, c, d⟩ := st
    exact ⟨o, e, fun v z => by rw [d] at z; cases z⟩
  keep := fun i h h' st k => ⟨st.1, st.2.at fun o e => k it (by simp) o e⟩
  item := by
    intro X hP hw hK hc i pins s σ H E I hf st hg
    subst hP hw hK
    obtain ⟨hin, xs, x, hq, hx⟩ := hg
    obtain ⟨its, rv, p, hz⟩ := I.list hq
    obtain ⟨u, hu, ru⟩ := rv.get hx
    obtain ⟨f0, f1, f2, f3, f4, f5⟩ := hf it (by simp)
    obtain ⟨_, hit⟩ := st
    have e1 : (n : Int) - 1 - ((i : Nat) : Int) = ((n - 1 - i : Nat) : Int) := by omega
    rw [e1] at hit
    refine wpAny_pyNext_rev_item hit p.isList (x := u) (by simpa using hu) fun h' st' sb => ?_
    have e2 : ((n - 1 - i : Nat) : Int) - 1 = (n : Int) - 1 - ((i + 1 : Nat) : Int) := by omega
    rw [e2] at st'
    have I1 : Inv X pins σ H { s with heap := h' } := I.turned (t' := s.toks) (fun b o hb e => (sb.2 b hb).trans e) f0 f1 f3 f4 f5
    obtain ⟨o, e, c, d⟩ := id st'
    exact ⟨u, rfl, go_of (s := { s with heap := h' }) e c d (by decide) ⟨x, H, I1, ru, ⟨rfl, fun ys hy => by rw [I.list_inj hy hq]; exact hx⟩, ⟨hin, st'⟩, fun b hb => (hf b hb).1⟩⟩
  done := by
    intro X hP hw hK hc i pins s σ H E I hf st hg
    subst hP hw hK
    obtain ⟨f0, f1, f2, f3, f4, f5⟩ := hf it (by simp)
    obtain ⟨hin, hit⟩ := st
    have hge : n ≤ i := hg
    have e1 : (n : Int) - 1 - ((i : Nat) : Int) = -1 := by omega
    rw [e1] at hit
    exact wpAny_pyNext_rev_end (I.ok.hd hc) hit fun h' eb => ⟨rfl, I.turned (t' := s.toks) (fun b o hb e => eb b o hb e) f0 f1 f3 f4 f5⟩
  self := fun A i s Q E st h => wpAny_pyIter_revIter st.2 h
section
variable {X : Cx} {tg : Expr}
end
section
variable {prog : Program} {w : World} {A : Around} {E : Value → Shared → Prop} {s : Shared}
end
section
variable {X : Cx} {pins : List (Addr × Obj)} {σ : St} {H : Hp} {s : Shared} {d : Addr} {o : Obj}
end
section
variable {P : Program} {w : World} {K : PySem.W.Frag} {tg : Expr} {d : Addr} {o : Obj} {es : Array DictEntry} {ep : Nat}
end
section
variable {X : Cx} {tg e : Expr} {td : TE} {apos cpos : Pos}
end
/-- the list at a as it stands at each turn, each item in a new pair -/
def Ite (K : PySem.W.Frag) (a : Addr) : It :=
  ⟨fun i H => ∃ (xs : List V) (x : V), SqL K H a xs ∧ xs[i]? = some x, fun i H v H' => ∃ T x, v = .ref T ∧ H T = none ∧ H' = upd H T (.tup [.int (i : Nat), x]) ∧ ∀ xs, SqL K H a xs → xs[i]? = some x, fun i H => ∃ xs : List V, SqL K H a xs ∧ xs.length ≤ i⟩
theorem turn_enum {P : Program} {w : World} {K : PySem.W.Frag} {elts : List Expr} {kk : Nat} {tpos : Pos} (a e it : Addr) :
    Turn P w K (.Tuple elts kk tpos) (Ite K a) [e, it] e (fun i h => (∃ old, IsEnum h e it ((i : Nat) : Int) old) ∧ h.IsListIter it a i ∧ e ≠ it) where
  mem := by simp
  obj := fun i h st b hb => by
    obtain ⟨⟨old, he⟩, ⟨o, ho, hc, hd⟩, _⟩ := st
    have e' : b = e ∨ b = it := by simpa using hb
    rcases e' with z | z
    · rw [z]; exact ⟨_, he, fun v q => nomatch q⟩
    · rw [z]; exact ⟨o, ho, fun v q => by rw [hd] at q; cases q⟩
  keep := fun i h h' st k => let ⟨⟨old, he⟩, hi, hne⟩ := st; ⟨⟨old, k e (by simp) _ he⟩, hi.at fun o q => k it (by simp) o q, hne⟩
  item := by
    intro X hP hw hK hc i pins s σ H E I hf st hg
    subst hP hw hK
    obtain ⟨⟨old, he⟩, hit, hne⟩ := st
    obtain ⟨xs, x, hq, hx⟩ := hg
    obtain ⟨its, rv, p, hz⟩ := I.list hq
    obtain ⟨u, hu, ru⟩ := rv.get hx
    have hel : e < s.heap.objs.size := Heap.lt_size he
    have hil : it < s.heap.objs.size := by obtain ⟨_, q, _⟩ := hit; exact Heap.lt_size q
    refine wpAny_pyNext_enum_item he hit p.isList (x := u) (by simpa using hu) hne fun h' ho hit' hT hsz hk => ?_
    refine ⟨_, rfl, wpAny_letOwnedTupleGo_enum (s := { s with heap := h', toks := s.toks + 1 }) ho fun h'' he' sb => ?_⟩
    have hT2 : h''.get? s.heap.objs.size = some { cls := .type "tuple", data := .seq #[.int i s.toks, u] } := (sb.2 _ (Nat.ne_of_gt hel)).trans hT
    have new : ObjOk X.prog X.w (upd H s.heap.objs.size (.tup [.int (i : Nat), x])) h'' s.heap.objs.size (.tup [.int (i : Nat), x]) :=
      ⟨by show 2 ≤ sizeLine; decide, [.int i s.toks, u], .cons ⟨_, rfl⟩ (.cons ru .nil), ⟨_, hT2, rfl, _, rfl⟩⟩
    have I1 : Inv X pins σ (upd H s.heap.objs.size (.tup [.int (i : Nat), x])) { s with heap := h'', toks := s.toks + 1 } :=
      I.turnedNew (ch := [e, it]) (fun b ob hb q => (sb.2 b (fun z => hb (by simp [z]))).trans (hk b ob (fun z => hb (by simp [z])) (fun z => hb (by simp [z])) q)) hf (Nat.le_refl _) new
    refine ⟨.ref s.heap.objs.size, _, I1, rfl, ⟨_, x, rfl, I.hok.fresh (Nat.le_refl _), rfl, fun ys hy => by rw [I.list_inj hy hq]; exact hx⟩, ⟨⟨u, ?_⟩, hit'.at fun o q => (sb.2 it (Ne.symm hne)).trans q, hne⟩, fun b hb => ?_⟩
    · have e1 : ((i + 1 : Nat) : Int) = (i : Int) + 1 := by omega
      rw [e1]; exact he'
    · have hb' : b < s.heap.objs.size := by
        have e' : b = e ∨ b = it := by simpa using hb
        rcases e' with z | z
        · rw [z]; exact hel
        · rw [z]; exact hil
      rw [upd_ne (Nat.ne_of_lt hb')]
      exact (hf b hb).1
  done := by
    intro X hP hw hK hc i pins s σ H E I hf st hg
    subst hP hw hK
    obtain ⟨⟨old, he⟩, hit, hne⟩ := st
    obtain ⟨xs, hq, hx⟩ := hg
    obtain ⟨its, rv, p, hz⟩ := I.list hq
    obtain ⟨f0, f1, f2, f3, f4, f5⟩ := hf it (by simp)
    have hl := rv.length
    exact wpAny_pyNext_enum_end (I.ok.hd hc) he hit p.isList (by simp; omega) fun h' eb => ⟨rfl, I.turned (t' := s.toks) (fun b o hb q => eb b o hb q) f0 f1 f3 f4 f5⟩
  self := fun A i s Q E st h => let ⟨⟨_, he⟩, _⟩ := st; wpAny_pyIter_enum he h
def iEnum (K : PySem.W.Frag) (ta : TA) : TI := fun σ H R => ta σ H fun vs H1 => ∃ a xs, vs = [.ref a] ∧ SqL K H1 a xs ∧ R (Ite K a) H1
theorem pi_enum {X : Cx} {e : Expr} {ta : TA} {p pos tpos : Pos} {elts : List Expr} {kk : Nat} (hg : Gl X "enumerate") (hm : X.mg "enumerate" = none) (ha : PA X [e] ta) (hs : starEach [e] X.env = [(false, eval e X.env)] := by rfl) :
    PI X (.Tuple elts kk tpos) (.Call (.Name "enumerate" p) [e] [] pos) (iEnum X.K ta) := by
  intro pins s σ H R I h
  refine Call_ (ld_blt I hg hm boot_enumerate (PyProof.Rows.callWith_type1 (thn (ha pos pins s σ H _ I h) fun us s1 ⟨vs, H1, I1, r1, q1⟩ => ?_) hs rfl))
  obtain ⟨a, xs, ex, hq, q⟩ := q1
  subst ex
  cases r1 with
  | cons r rr =>
    cases rr
    cases r
    obtain ⟨its, rv, p', hz⟩ := I1.list hq
    refine call_enumerate_list p'.isList fun h' he hit hsz hk => wpAny_pyIter_enum he ?_
    have I2 : Inv X pins σ H1 { s1 with heap := h' } := I1.kept (t' := s1.toks) hk
    refine ⟨s1.heap.objs.size + 1, [s1.heap.objs.size + 1, s1.heap.objs.size], _, _, H1, rfl, I2, turn_enum a (s1.heap.objs.size + 1) s1.heap.objs.size, ⟨⟨.none, he⟩, hit, Nat.succ_ne_self _⟩, fun b hb => ?_, q⟩
    have e' : b = s1.heap.objs.size + 1 ∨ b = s1.heap.objs.size := by simpa using hb
    have hle : s1.heap.objs.size ≤ b := by
      rcases e' with z | z
      · rw [z]; exact Nat.le_add_right _ _
      · rw [z]; exact Nat.le_refl _
    exact I1.fpOk hle (I1.hok.fresh hle)
theorem boot_zip5 : bootBuiltins "zip" = some (.type "zip") := by decide +kernel
end L2
section 
namespace Bits
open PySem PyProof.Rows
/-- x & ((1 << k) - 1) -/
theorem bitAnd_mask {x : Int} (k : Nat) (hx : 0 ≤ x) : Builtin.bitAnd x (2 ^ k - 1) = x % 2 ^ k := by
  obtain ⟨n, rfl⟩ := Int.eq_ofNat_of_zero_le hx
  have hp : 0 < 2 ^ k := Nat.two_pow_pos k
  rw [two_pow_cast]
  have e : ((2 ^ k : Nat) : Int) - 1 = ((2 ^ k - 1 : Nat) : Int) := by
    generalize (2 : Nat) ^ k = m at hp
    omega
  rw [e, bitAnd_pp (by omega) (by omega), Int.toNat_natCast, Int.toNat_natCast, Nat.and_two_pow_sub_one_eq_mod]
  first
    | rfl
    | exact Int.natCast_emod _ _
    | simp
end Bits
end 
section 
namespace TL
open PySem PySem.Builtin PySem.Builtin.Str PySem.StrLaws
abbrev tl (x : Str) : List Nat := x.cps.toList
/-- S stands at the head of l -/
def pre (S l : List Nat) : Bool := l.take S.length == S
/-- what stands before the first S, and behind it -/
def par (S : List Nat) : List Nat → List Nat → Option (List Nat × List Nat)
  | _, [] => none
  | acc, c :: r => if pre S (c :: r) = true then some (acc, (c :: r).drop S.length) else par S (acc ++ [c]) r
end TL
end 
namespace L2
open PySem PySem.Spec PyProof.Rows
section
variable {X : Cx} {pins : List (Addr × Obj)} {σ : St} {H : Hp} {s : Shared} {Q : VK}
end
section
variable {X : Cx}
end
section
variable {X : Cx} {o e : Expr} {to te : TE}
end
end L2
namespace L2
open PySem PySem.Spec PyProof.Rows
section
variable {X : Cx}
end
theorem IsPart.raw {v : Value} {o : Option Int} (p : IsPart v o) : ∃ l : Option (Int × Tok), v = partValue l ∧ l.map (·.1) = o := by
  cases p with
  | none => exact ⟨none, rfl, rfl⟩
  | int i t => exact ⟨some (i, t), rfl, rfl⟩
end L2
namespace Att
open PySem PySem.W PySem.Calls PyProof.Rows
section
variable {prog : Program} {w : World} {A : Around} {E : Value → Shared → Prop} {s : Shared} {K : Frag}
end
end Att
namespace L2
open PySem PySem.Spec PyProof.Rows
end L2
namespace L2
open PySem PySem.Spec PyProof.Rows
end L2
namespace L2
open PySem PySem.Spec PyProof.Rows
/-- the j-th statement of a class's body -/
def inClass (s : Stmt) (j : Nat) : Stmt := match s with
  | .ClassDef _ _ _ body _ _ _ _ _ _ _ => body.getD j (.Pass ⟨0, 0, 0, 0⟩)
  | _ => .Pass ⟨0, 0, 0, 0⟩
def defArgs (s : Stmt) : Arguments := match s with
  | .FunctionDef _ a _ _ _ _ _ _ _ _ => a
  | _ => { posonlyargs := [], args := [], vararg := none, kwonlyargs := [], kw_defaults := [], kwarg := none, defaults := [] }
def defBody (s : Stmt) : List Stmt := match s with
  | .FunctionDef _ _ b _ _ _ _ _ _ _ => b
  | _ => []
def defScope (s : Stmt) : Scope := match s with
  | .FunctionDef _ _ _ _ _ _ sc _ _ _ => sc
  | _ => { kind := .function, names := [], isGenerator := false, isCoroutine := false }
abbrev CX0 : CXT := fun _ _ _ _ _ _ => False
abbrev E0 : XK := fun _ _ _ => False
theorem pass0 {X : Cx} : Passes CX0 X E0 := fun _ _ _ _ _ _ _ h => h.elim
structure Fun (K : PySem.W.Frag) (x qual : Str) (st : Stmt) (f : Addr) (fd : FuncData) : Prop where
  ex : ∃ (oc : Value) (od : Option Addr) (kV doc pm : Value) (an : Option Addr) (cdv ct : Value) (osl : Array (Option Value)),
    fd = PySem.W.fnOf x qual (defArgs st) (defBody st) (defScope st) .none kV doc pm an cdv ct ∧ K.lookup f = some ⟨oc, od, .func fd, osl⟩ ∧ PySem.W.codeIn K cdv qual = true
  kp : PySem.W.keepIn K (.ref f) = true
section
variable {P : Program} {w : World} {K : PySem.W.Frag} {mg : Str → Option Value} {base : Heap}
/-- THE RULE for a def: its body as a term of rules, and the reading of that term -/
theorem Fun.ok {x qual : Str} {st : Stmt} {f : Addr} {fd : FuncData} {N ps : List Str} {k : Nat} {sp : Sp} (F : Fun K x qual st f fd) (S : FnScope N ps (defScope st)) (len : ∀ vs H Q E, sp vs H Q E → vs.length = ps.length)
    (hbody : ∀ (cdv : Value) (A : Around) (outer : List Env) (s : Shared) (H : Hp) (vs : List V) (Q : VK) (E : XK), Room k (A.deeper (envOfC qual (defScope st) s.heap.objs.size f cdv)) → sp vs H Q E →
      ∃ t, PSs (cxOf CX0 P w K mg base N qual (defScope st) f cdv A outer s H E).nox (defBody st) t ∧ t { nx := fun _ H' => Q .non H', rt := Q } (start N vs) H) : FnOk P w K mg base CX0 (k + 1) f fd ps sp := by
  obtain ⟨oc, od, kV, doc, pm, an, cdv, ct, osl, rfl, lk, hcd⟩ := F.ex
  refine fn_of lk hcd S len fun A outer s H vs Q E hr hsp => ?_
  obtain ⟨t, h, q⟩ := hbody cdv A outer s H vs Q E hr hsp
  exact ⟨t, h.nox, q⟩
/-- how its arguments bind (no defaults): h is «fun _ _ _ _ _ _ us hl => match us, hl with | [_, _], _ => rfl», one _ a parameter -/
theorem Fun.binds {x qual : Str} {st : Stmt} {f : Addr} {fd : FuncData} {ps : List Str} (F : Fun K x qual st f fd)
    (h : ∀ (kV doc pm : Value) (an : Option Addr) (cdv ct : Value) (us : List Value), us.length = ps.length → bindArgs (PySem.W.fnOf x qual (defArgs st) (defBody st) (defScope st) .none kV doc pm an cdv ct) ⟨us, []⟩ = pure (ps.zip us)) : Binds K fd ps [] := by
  obtain ⟨oc, od, kV, doc, pm, an, cdv, ct, osl, rfl, lk, hcd⟩ := F.ex
  exact .all (h kV doc pm an cdv ct)
theorem fun_mk {x qual : Str} {st : Stmt} {f : Addr} {oc : Value} {od an : Option Addr} {osl : Array (Option Value)} {kV doc pm cdv ct : Value} (l : K.lookup f = some ⟨oc, od, .func (PySem.W.fnOf x qual (defArgs st) (defBody st) (defScope st) .none kV doc pm an cdv ct), osl⟩)
    (c : PySem.W.codeIn K cdv qual = true) (k : PySem.W.keepIn K (.ref f) = true) : Fun K x qual st f (PySem.W.fnOf x qual (defArgs st) (defBody st) (defScope st) .none kV doc pm an cdv ct) := ⟨⟨oc, od, kV, doc, pm, an, cdv, ct, osl, rfl, l, c⟩, k⟩
end
section
variable {X : Cx}
theorem pv (i : Nat) {x : Str} {pos : Pos} (hN : X.N[i]? = some x := by rfl) (hv : Vis X.env.scope x := by first | exact Or.inl rfl | exact Or.inr (Or.inl rfl) | exact Or.inr (Or.inr rfl)) (hd : (x == ("__debug__" : Str)) = false := by decide)
    (hcd : (x == ("__classdict__" : Str)) = false := by decide) : PE X (.Name x pos) (tVar i) := pe_var hN hv hd hcd
end
theorem iteF {A B : Prop} (h : B) : if false = true then A else B := by
  rw [if_neg Bool.false_ne_true]
  exact h
theorem iteT {A B : Prop} (h : A) : if true = true then A else B := by
  rw [if_pos rfl]
  exact h
theorem ite2 {c A B : Prop} [Decidable c] (h1 : c → A) (h2 : ¬ c → B) : if c then A else B := by
  by_cases h : c
  · rw [if_pos h]
    exact h1 h
  · rw [if_neg h]
    exact h2 h
/-- all that was tracked is as it was -/
def Same (H H' : Hp) : Prop := ∀ b o, H b = some o → H' b = some o
theorem Same.refl (H : Hp) : Same H H := fun _ _ h => h
theorem Same.trans {H H1 H2 : Hp} (a : Same H H1) (b : Same H1 H2) : Same H H2 := fun c o h => b c o (a c o h)
theorem Same.free {H H' : Hp} (e : Same H H') {l : Addr} (h : H' l = Option.none) : H l = Option.none := by
  cases q : H l with
  | none => rfl
  | some o =>
    rw [e l o q] at h
    cases h
theorem Same.seq {K : PySem.W.Frag} {H H' : Hp} {a : Addr} {xs : List V} (e : Same H H') (h : SqL K H a xs) : SqL K H' a xs := by
  rcases h with (h | ⟨o, h⟩) | h
  · exact .inl (.inl (e _ _ h))
  · exact .inl (.inr ⟨o, e _ _ h⟩)
  · exact .inr h
section
variable {κ : Type} [DecidableEq κ]
end
theorem at_of {xs : List V} {z : Int} {j : Nat} {v : V} (e : z = (j : Int)) (h : xs[j]? = some v) : atI xs z = some v := by
  rw [e]
  exact atI_nat h
/-- a new instance and its __init__ leave all that was tracked as it was -/
theorem Same.made {H H1 : Hp} {x dx C : Addr} (nx : H x = Option.none) (nd : H dx = Option.none) (k : ∀ b o, (upd (upd H dx (.own x)) x (.ins C dx [])) b = some o → b ≠ x → H1 b = some o) : Same H H1 := fun b o e =>
  k b o (by rw [upd_ne (ne_of_none e nx), upd_ne (ne_of_none e nd)]; exact e) (ne_of_none e nx)
end L2
section
set_option Elab.async false
set_option linter.all false
set_option maxRecDepth 100000
set_option maxHeartbeats 2000000
namespace L2
open PySem PySem.Spec PyProof.Rows
open PySem.W (WData Codec OpenSpec Well WellAll ReadsW ReadsAllW)
mutual
/-- x stands for the datum d, lists and tuples all the way -/
inductive Dw (K : PySem.W.Frag) (H : Hp) : V → WData → Prop
  | non : Dw K H .non .none
  | bl (b : Bool) : Dw K H (.bl b) (.bool b)
  | int (i : Int) : Dw K H (.int i) (.int i)
  | str (x : Str) : Dw K H (.str x) (.str x)
  | byt (b : Array UInt8) : Dw K H (.byt b) (.bytes b.toList)
  | lst {a : Addr} {xs : List V} {ds : List WData} : SqL K H a xs → DwAll K H xs ds → Dw K H (.ref a) (.list ds)
  | tup {a : Addr} {xs : List V} {ds : List WData} : SqT K H a xs → DwAll K H xs ds → Dw K H (.ref a) (.tuple ds)
inductive DwAll (K : PySem.W.Frag) (H : Hp) : List V → List WData → Prop
  | nil : DwAll K H [] []
  | cons {v : V} {vs : List V} {d : WData} {ds : List WData} : Dw K H v d → DwAll K H vs ds → DwAll K H (v :: vs) (d :: ds)
end
theorem dw_ints {K : PySem.W.Frag} {H : Hp} : ∀ ns : List Int, DwAll K H (ns.map V.int) (ns.map WData.int)
  | [] => .nil
  | n :: r => .cons (.int n) (dw_ints r)
theorem ints_dw {K : PySem.W.Frag} {H : Hp} : ∀ (ns : List Int) (xs : List V), DwAll K H xs (ns.map WData.int) → xs = ns.map V.int
  | [], xs, h => by
    cases h
    rfl
  | n :: r, xs, h => by
    cases h with
    | cons h1 h2 =>
      cases h1
      rw [ints_dw r _ h2] <;> rfl
section
variable {P : Program} {w : World} {K : PySem.W.Frag} {H : Hp} {h : Heap} {R : PySem.W.WRecords} {cl : Str → Option Addr}
theorem sqL_at {a : Addr} {xs : List V} (hok : HOk P w H h) (KX : K.In h) (q : SqL K H a xs) : ∃ (its : List Value) (o : Obj) (n : Nat), Vals xs its ∧ h.get? a = some o ∧ o.cls = .type "list" ∧ o.data = .seq its.toArray n := by
  rcases q with q | ⟨o, its, n, e, hc, _, hd, _, hv⟩
  · obtain ⟨_, its, n, hv, e⟩ := (show ObjOk P w H h a (.lst xs) from q.ok hok)
    exact ⟨its, _, n, hv, e, rfl, rfl⟩
  · exact ⟨its.toList, o, n, hv, KX _ _ e, hc, by simp [hd]⟩
theorem sqT_at {a : Addr} {xs : List V} (hok : HOk P w H h) (KX : K.In h) (q : SqT K H a xs) : ∃ (its : List Value) (o : Obj) (n : Nat), Vals xs its ∧ h.get? a = some o ∧ o.cls = .type "tuple" ∧ o.data = .seq its.toArray n := by
  rcases q with q | ⟨o, its, n, e, hc, hd, _, hv⟩
  · obtain ⟨_, its, hv, o, e, hc, n, hd⟩ := (show ObjOk P w H h a (.tup xs) from q.ok hok)
    exact ⟨its, o, n, hv, e, hc, hd⟩
  · exact ⟨its.toList, o, n, hv, KX _ _ e, hc, by simp [hd]⟩
mutual
theorem Dw.reads (hok : HOk P w H h) (KX : K.In h) : ∀ (d : WData) (v : V) (u : Value), Dw K H v d → RelV v u → ∃ as, ReadsW R cl h u d as
  | .none, _, _, x, r => by
    cases x
    cases r
    exact ⟨_, ReadsW.none⟩
  | .bool b, _, _, x, r => by
    cases x
    cases r
    exact ⟨_, ReadsW.bool b⟩
  | .int i, _, _, x, r => by
    cases x
    obtain ⟨t, rfl⟩ := r
    exact ⟨_, ReadsW.int i t⟩
  | .str s, _, _, x, r => by
    cases x
    obtain ⟨t, rfl⟩ := r
    exact ⟨_, ReadsW.str s t⟩
  | .bytes b, _, _, x, r => by
    cases x
    obtain ⟨t, rfl⟩ := r
    exact ⟨_, ReadsW.bytes _ t⟩
  | .list ds, _, _, x, r => by
    cases x with
    | lst hs ha =>
      cases r
      obtain ⟨its, o, n, rv, ho, hc, hd⟩ := sqL_at hok KX hs
      obtain ⟨as, hr⟩ := Dw.readsAll hok KX ds _ its ha rv
      exact ⟨_, ReadsW.list ho hc hd hr⟩
  | .tuple ds, _, _, x, r => by
    cases x with
    | tup hs ha =>
      cases r
      obtain ⟨its, o, n, rv, ho, hc, hd⟩ := sqT_at hok KX hs
      obtain ⟨as, hr⟩ := Dw.readsAll hok KX ds _ its ha rv
      exact ⟨_, ReadsW.tuple ho hc hd hr⟩
  | .float _, _, _, x, _ => by cases x
  | .dict _, _, _, x, _ => by cases x
  | .bytearray _, _, _, x, _ => by cases x
  | .set _, _, _, x, _ => by cases x
  | .frozenset _, _, _, x, _ => by cases x
  | .obj _ _, _, _, x, _ => by cases x
theorem Dw.readsAll (hok : HOk P w H h) (KX : K.In h) : ∀ (ds : List WData) (vs : List V) (us : List Value), DwAll K H vs ds → Vals vs us → ∃ as, ReadsAllW R cl h us ds as
  | [], _, _, x, r => by
    cases x
    cases r
    exact ⟨_, ReadsAllW.nil⟩
  | d :: ds, _, _, x, r => by
    cases x with
    | cons h1 h2 =>
      cases r with
      | cons r1 r2 =>
        obtain ⟨as, q1⟩ := Dw.reads hok KX d _ _ h1 r1
        obtain ⟨bs, q2⟩ := Dw.readsAll hok KX ds _ _ h2 r2
        exact ⟨_, ReadsAllW.cons q1 q2⟩
end
end
mutual
/-- data that a codec tells -/
def plW : WData → Bool
  | .none => true
  | .bool _ => true
  | .int _ => true
  | .str _ => true
  | .bytes _ => true
  | .list xs => plWs xs
  | .tuple xs => plWs xs
  | _ => false
def plWs : List WData → Bool
  | [] => true
  | x :: r => plW x && plWs r
end
theorem plWs_map {α : Type} {f : α → WData} (h : ∀ a, plW (f a) = true) : ∀ l : List α, plWs (l.map f) = true
  | [] => rfl
  | x :: r => by
    show (plW (f x) && plWs (r.map f)) = true
    rw [h x, plWs_map h r] <;> rfl
theorem pl_enc : ∀ (c : Codec) (a : c.denote), plW (c.enc a) = true
  | .unit, _ => rfl
  | .bool, _ => rfl
  | .int _ _, _ => rfl
  | .nat _ _, _ => rfl
  | .u8, _ => rfl
  | .bytes _ _, _ => rfl
  | .text _ _ _ _, _ => rfl
  | .list _ _ c, a => plWs_map (fun x => pl_enc c x) a
  | .pair c d, a => by
    show (plW (c.enc a.1) && (plW (d.enc a.2) && true)) = true
    rw [pl_enc c a.1, pl_enc d a.2] <;> rfl
  | .triple c d e, a => by
    show (plW (c.enc a.1) && (plW (d.enc a.2.1) && (plW (e.enc a.2.2) && true))) = true
    rw [pl_enc c a.1, pl_enc d a.2.1, pl_enc e a.2.2] <;> rfl
  | .option c, none => rfl
  | .option c, some x => pl_enc c x
theorem pl_encAll : ∀ (cs : List Codec) (a : Codec.denoteAll cs), plWs (Codec.encAll cs a) = true
  | [], _ => rfl
  | c :: cs, a => by
    show (plW (c.enc a.1) && plWs (Codec.encAll cs a.2)) = true
    rw [pl_enc c a.1, pl_encAll cs a.2] <;> rfl
theorem weight_mem : ∀ {xs : List WData} {d : WData}, d ∈ xs → d.weight ≤ WData.weightAll xs
  | [], d, h => absurd h (by simp)
  | x :: r, d, h => by
    show d.weight ≤ x.weight + 1 + WData.weightAll r
    rcases List.mem_cons.mp h with e | m
    · rw [e]
      omega
    · have z := weight_mem m
      omega
def toV : Value → V
  | .none => .non
  | .bool b => .bl b
  | .int i _ => .int i
  | .str x _ => .str x
  | .bytes b _ => .byt b
  | .ref a => .ref a
  | _ => .non
/-- a value of the arguments, its objects among A -/
def OkU (A : List Addr) : Value → Prop
  | .none => True
  | .bool _ => True
  | .int _ _ => True
  | .str _ _ => True
  | .bytes _ _ => True
  | .ref a => a ∈ A
  | _ => False
theorem OkU.mono {A B : List Addr} (h : ∀ a ∈ A, a ∈ B) : ∀ {u : Value}, OkU A u → OkU B u := fun {u} x => by
  cases u with
  | ref a => exact h a x
  | none => trivial
  | bool b => trivial
  | int i t => trivial
  | str s t => trivial
  | bytes b t => trivial
  | _ => exact False.elim x
theorem relV_toV {A : List Addr} {u : Value} (x : OkU A u) : RelV (toV u) u := by
  cases u with
  | ref a => rfl
  | none => rfl
  | bool b => rfl
  | int i t => exact ⟨t, rfl⟩
  | str s t => exact ⟨t, rfl⟩
  | bytes b t => exact ⟨t, rfl⟩
  | _ => exact False.elim x
theorem vals_toV {A : List Addr} : ∀ {vs : List Value}, (∀ u ∈ vs, OkU A u) → Vals (vs.map toV) vs
  | [], _ => .nil
  | u :: r, h => .cons (relV_toV (h u (List.mem_cons_self ..))) (vals_toV fun x hx => h x (List.mem_cons_of_mem _ hx))
/-- an object of the arguments -/
def ArgOb (h : Heap) (A : List Addr) (a : Addr) : Prop := ∃ vs : List Value, vs.length ≤ sizeLine ∧ (∀ u ∈ vs, OkU A u) ∧
  (h.get? a = some { cls := .type "list", data := .seq vs.toArray } ∨ h.get? a = some { cls := .type "tuple", data := .seq vs.toArray })
theorem ArgOb.mono {h : Heap} {A B : List Addr} {a : Addr} (k : ∀ a ∈ A, a ∈ B) (x : ArgOb h A a) : ArgOb h B a := by
  obtain ⟨vs, h1, h2, h3⟩ := x
  exact ⟨vs, h1, fun u hu => (h2 u hu).mono k, h3⟩
theorem wellAll_len {P : Params} {h : Heap} : ∀ {vs : List Value} {ds : List WData}, WellAll P h vs ds → vs.length = ds.length
  | _, _, .nil => rfl
  | _, _, .cons _ b => by
    show _ + 1 = _ + 1
    rw [wellAll_len b]
theorem well_list {P : Params} {h : Heap} {v : Value} {ds : List WData} (x : Well P h v (.list ds)) : ∃ (a : Addr) (vs : List Value), v = .ref a ∧ h.get? a = some { cls := .type "list", data := .seq vs.toArray } ∧ WellAll P h vs ds := by
  cases x with
  | list ho hall => exact ⟨_, _, rfl, ho, hall⟩
theorem well_tuple {P : Params} {h : Heap} {v : Value} {ds : List WData} (x : Well P h v (.tuple ds)) : ∃ (a : Addr) (vs : List Value), v = .ref a ∧ h.get? a = some { cls := .type "tuple", data := .seq vs.toArray } ∧ WellAll P h vs ds := by
  cases x with
  | tuple ho hall => exact ⟨_, _, rfl, ho, hall⟩
theorem well_cons {P : Params} {h : Heap} {us : List Value} {d : WData} {ds : List WData} (x : WellAll P h us (d :: ds)) : ∃ (v : Value) (vs : List Value), us = v :: vs ∧ Well P h v d ∧ WellAll P h vs ds := by
  cases x with
  | cons a b => exact ⟨_, _, rfl, a, b⟩
theorem line_of {n : Nat} (h : n ≤ 1048576) : n ≤ sizeLine := Nat.le_trans h (by decide)
section
variable {P : Params} {h : Heap}
mutual
theorem area_one : ∀ (d : WData) (v : Value), Well P h v d → plW d = true → d.weight ≤ 1048576 → ∃ A : List Addr, OkU A v ∧ ∀ a ∈ A, ArgOb h A a
  | .none, _, x, _, _ => by
    cases x
    exact ⟨[], trivial, fun a m => absurd m (by simp)⟩
  | .bool b, _, x, _, _ => by
    cases x
    exact ⟨[], trivial, fun a m => absurd m (by simp)⟩
  | .int i, _, x, _, _ => by
    cases x
    exact ⟨[], trivial, fun a m => absurd m (by simp)⟩
  | .str s, _, x, _, _ => by
    cases x
    exact ⟨[], trivial, fun a m => absurd m (by simp)⟩
  | .bytes b, _, x, _, _ => by
    cases x
    exact ⟨[], trivial, fun a m => absurd m (by simp)⟩
  | .list ds, _, x, p, z => by
    obtain ⟨a, vs, rfl, ho, hall⟩ := well_list x
    have z2 : WData.weightAll ds ≤ 1048576 := z
    obtain ⟨A, h1, h2⟩ := area_all ds _ hall p fun d hd => Nat.le_trans (weight_mem hd) z2
    have k : ∀ b ∈ A, b ∈ a :: A := fun b hb => List.mem_cons_of_mem _ hb
    refine ⟨a :: A, List.mem_cons_self .., fun b hb => ?_⟩
    rcases List.mem_cons.mp hb with e | m
    · rw [e]
      exact ⟨vs, line_of (by rw [wellAll_len hall]; exact Nat.le_trans (PySem.W.length_le_weightAllW ds) z2), fun u hu => (h1 u hu).mono k, .inl ho⟩
    · exact (h2 b m).mono k
  | .tuple ds, _, x, p, z => by
    obtain ⟨a, vs, rfl, ho, hall⟩ := well_tuple x
    have z2 : WData.weightAll ds ≤ 1048576 := z
    obtain ⟨A, h1, h2⟩ := area_all ds _ hall p fun d hd => Nat.le_trans (weight_mem hd) z2
    have k : ∀ b ∈ A, b ∈ a :: A := fun b hb => List.mem_cons_of_mem _ hb
    refine ⟨a :: A, List.mem_cons_self .., fun b hb => ?_⟩
    rcases List.mem_cons.mp hb with e | m
    · rw [e]
      exact ⟨vs, line_of (by rw [wellAll_len hall]; exact Nat.le_trans (PySem.W.length_le_weightAllW ds) z2), fun u hu => (h1 u hu).mono k, .inr ho⟩
    · exact (h2 b m).mono k
  | .float _, _, _, p, _ => Bool.noConfusion (show false = true from p)
  | .dict _, _, _, p, _ => Bool.noConfusion (show false = true from p)
  | .bytearray _, _, _, p, _ => Bool.noConfusion (show false = true from p)
  | .set _, _, _, p, _ => Bool.noConfusion (show false = true from p)
  | .frozenset _, _, _, p, _ => Bool.noConfusion (show false = true from p)
  | .obj _ _, _, _, p, _ => Bool.noConfusion (show false = true from p)
theorem area_all : ∀ (ds : List WData) (vs : List Value), WellAll P h vs ds → plWs ds = true → (∀ d ∈ ds, d.weight ≤ 1048576) → ∃ A : List Addr, (∀ u ∈ vs, OkU A u) ∧ ∀ a ∈ A, ArgOb h A a
  | [], _, x, _, _ => by
    cases x
    exact ⟨[], fun u m => absurd m (by simp), fun a m => absurd m (by simp)⟩
  | d :: ds, _, x, p, z => by
    obtain ⟨v, vs, rfl, x1, x2⟩ := well_cons x
    have q : plW d = true ∧ plWs ds = true := Bool.and_eq_true_iff.mp p
    obtain ⟨A, a1, a2⟩ := area_one d v x1 q.1 (z d (List.mem_cons_self ..))
    obtain ⟨B, b1, b2⟩ := area_all ds vs x2 q.2 fun e he => z e (List.mem_cons_of_mem _ he)
    have kA : ∀ b ∈ A, b ∈ A ++ B := fun b hb => List.mem_append.mpr (.inl hb)
    have kB : ∀ b ∈ B, b ∈ A ++ B := fun b hb => List.mem_append.mpr (.inr hb)
    refine ⟨A ++ B, fun u hu => ?_, fun b hb => ?_⟩
    · rcases List.mem_cons.mp hu with e | m
      · rw [e]
        exact a1.mono kA
      · exact (b1 u m).mono kB
    · rcases List.mem_append.mp hb with m | m
      · exact (a2 b m).mono kA
      · exact (b2 b m).mono kB
end
end
/-- what is tracked of an argument's object -/
def hoOf (o : Obj) : Option HO := match o.data with
  | .seq vs _ => if (o.cls == Value.type "list") = true then some (.frz o (.lst (vs.toList.map toV))) else some (.frz o (.tup (vs.toList.map toV)))
  | _ => none
def argH (K : PySem.W.Frag) (h : Heap) (A : List Addr) : Hp := fun b => if b ∈ A then (if (K.lookup b).isNone = true then (h.get? b).bind hoOf else none) else none
/-- nothing is tracked but what is known to the object -/
def OnlyF (H : Hp) : Prop := ∀ b, H b = none ∨ ∃ o u, H b = some (.frz o u)
theorem hoOf_lst (vs : List Value) : hoOf { cls := .type "list", data := .seq vs.toArray } = some (.frz { cls := .type "list", data := .seq vs.toArray } (.lst (vs.map toV))) := by
  show (if (Value.type "list" == Value.type "list") = true then some (HO.frz { cls := .type "list", data := .seq vs.toArray } (.lst (vs.toArray.toList.map toV))) else some (HO.frz { cls := .type "list", data := .seq vs.toArray } (.tup (vs.toArray.toList.map toV)))) = _
  rw [if_pos (beq_self_eq_true _)]
theorem hoOf_tup (vs : List Value) : hoOf { cls := .type "tuple", data := .seq vs.toArray } = some (.frz { cls := .type "tuple", data := .seq vs.toArray } (.tup (vs.map toV))) := by
  show (if (Value.type "tuple" == Value.type "list") = true then some (HO.frz { cls := .type "tuple", data := .seq vs.toArray } (.lst (vs.toArray.toList.map toV))) else some (HO.frz { cls := .type "tuple", data := .seq vs.toArray } (.tup (vs.toArray.toList.map toV)))) = _
  rw [if_neg (by decide)]
section
variable {P : Program} {w : World} {K : PySem.W.Frag} {h : Heap} {A : List Addr}
theorem argH_at {b : Addr} {o : Obj} (hb : b ∈ A) (hk : K.lookup b = none) (e : h.get? b = some o) : argH K h A b = hoOf o := by
  unfold argH
  rw [if_pos hb, hk, if_pos (show (none : Option Obj).isNone = true from rfl), e] <;> rfl
theorem of_argH {b : Addr} {u : HO} (q : argH K h A b = some u) : b ∈ A ∧ K.lookup b = none := by
  unfold argH at q
  by_cases hb : b ∈ A
  · rw [if_pos hb] at q
    cases hk : K.lookup b with
    | none => exact ⟨hb, rfl⟩
    | some o =>
      rw [hk, if_neg (by simp)] at q
      cases q
  · rw [if_neg hb] at q
    cases q
/-- what stands tracked -/
theorem argH_is (ar : ∀ a ∈ A, ArgOb h A a) {b : Addr} {u : HO} (q : argH K h A b = some u) : K.lookup b = none ∧ ∃ vs : List Value, vs.length ≤ sizeLine ∧ (∀ u ∈ vs, OkU A u) ∧
    ((h.get? b = some { cls := .type "list", data := .seq vs.toArray } ∧ u = .frz { cls := .type "list", data := .seq vs.toArray } (.lst (vs.map toV))) ∨
     (h.get? b = some { cls := .type "tuple", data := .seq vs.toArray } ∧ u = .frz { cls := .type "tuple", data := .seq vs.toArray } (.tup (vs.map toV)))) := by
  obtain ⟨hb, hk⟩ := of_argH q
  obtain ⟨vs, h1, h2, h3⟩ := ar b hb
  refine ⟨hk, vs, h1, h2, ?_⟩
  rcases h3 with e | e
  · rw [argH_at hb hk e, hoOf_lst] at q
    exact .inl ⟨e, (Option.some.inj q).symm⟩
  · rw [argH_at hb hk e, hoOf_tup] at q
    exact .inr ⟨e, (Option.some.inj q).symm⟩
theorem argH_only (ar : ∀ a ∈ A, ArgOb h A a) : OnlyF (argH K h A) := fun b => by
  cases q : argH K h A b with
  | none => exact .inl rfl
  | some u =>
    obtain ⟨_, vs, _, _, ⟨_, e⟩ | ⟨_, e⟩⟩ := argH_is ar q
    · exact .inr ⟨_, _, by rw [e]⟩
    · exact .inr ⟨_, _, by rw [e]⟩
theorem argH_ok (ar : ∀ a ∈ A, ArgOb h A a) : HOk P w (argH K h A) h := fun b u q => by
  obtain ⟨_, vs, h1, h2, ⟨e, rfl⟩ | ⟨e, rfl⟩⟩ := argH_is ar q
  · exact ⟨e, by rw [List.length_map]; exact h1, vs, _, vals_toV h2, e⟩
  · exact ⟨e, by rw [List.length_map]; exact h1, vs, vals_toV h2, _, e, rfl, _, rfl⟩
theorem seq_inj {c c' : Value} {vs us : List Value} (e : (some { cls := c, data := .seq vs.toArray } : Option Obj) = some { cls := c', data := .seq us.toArray }) : c = c' ∧ vs = us := by
  have e1 := Option.some.inj e
  have e2 : c = c' := congrArg Obj.cls e1
  have e3 : Data.seq vs.toArray = Data.seq us.toArray := congrArg Obj.data e1
  injection e3 with e4
  refine ⟨e2, ?_⟩
  have e5 := congrArg Array.toList e4
  simpa using e5
/-- a list argument -/
theorem argL (KX : K.In h) (ar : ∀ a ∈ A, ArgOb h A a) {a : Addr} {vs : List Value} (ha : a ∈ A) (e : h.get? a = some { cls := .type "list", data := .seq vs.toArray }) : (∀ u ∈ vs, OkU A u) ∧ SqL K (argH K h A) a (vs.map toV) := by
  obtain ⟨us, h1, h2, h3⟩ := ar a ha
  have hu : us = vs := by
    rcases h3 with q | q
    · rw [e] at q
      exact (seq_inj q).2.symm
    · rw [e] at q
      exact absurd (Value.type.inj (seq_inj q).1) (by decide)
  subst hu
  refine ⟨h2, ?_⟩
  cases hk : K.lookup a with
  | none => exact .inl (.inr ⟨_, by rw [argH_at ha hk e, hoOf_lst]⟩)
  | some o =>
    have e2 := KX a o hk
    rw [e] at e2
    obtain rfl := Option.some.inj e2
    exact .inr ⟨_, us.toArray, _, hk, rfl, rfl, rfl, by rw [List.size_toArray]; exact h1, by simpa using vals_toV h2⟩
theorem argT (KX : K.In h) (ar : ∀ a ∈ A, ArgOb h A a) {a : Addr} {vs : List Value} (ha : a ∈ A) (e : h.get? a = some { cls := .type "tuple", data := .seq vs.toArray }) : (∀ u ∈ vs, OkU A u) ∧ SqT K (argH K h A) a (vs.map toV) := by
  obtain ⟨us, h1, h2, h3⟩ := ar a ha
  have hu : us = vs := by
    rcases h3 with q | q
    · rw [e] at q
      exact absurd (Value.type.inj (seq_inj q).1) (by decide)
    · rw [e] at q
      exact (seq_inj q).2.symm
  subst hu
  refine ⟨h2, ?_⟩
  cases hk : K.lookup a with
  | none => exact .inl (.inr ⟨_, by rw [argH_at ha hk e, hoOf_tup]⟩)
  | some o =>
    have e2 := KX a o hk
    rw [e] at e2
    obtain rfl := Option.some.inj e2
    exact .inr ⟨_, us.toArray, _, hk, rfl, rfl, by rw [List.size_toArray]; exact h1, by simpa using vals_toV h2⟩
mutual
theorem dw_one {Pm : Params} (KX : K.In h) (ar : ∀ a ∈ A, ArgOb h A a) : ∀ (d : WData) (v : Value), Well Pm h v d → plW d = true → OkU A v → Dw K (argH K h A) (toV v) d
  | .none, _, x, _, _ => by
    cases x
    exact .non
  | .bool b, _, x, _, _ => by
    cases x
    exact .bl b
  | .int i, _, x, _, _ => by
    cases x
    exact .int i
  | .str s, _, x, _, _ => by
    cases x
    exact .str s
  | .bytes b, _, x, _, _ => by
    cases x
    have z := Dw.byt (K := K) (H := argH K h A) b.toArray
    exact z
  | .list ds, _, x, p, hu => by
    obtain ⟨a, vs, rfl, ho, hall⟩ := well_list x
    obtain ⟨h2, hs⟩ := argL KX ar hu ho
    exact .lst hs (dw_all KX ar ds _ hall p h2)
  | .tuple ds, _, x, p, hu => by
    obtain ⟨a, vs, rfl, ho, hall⟩ := well_tuple x
    obtain ⟨h2, hs⟩ := argT KX ar hu ho
    exact .tup hs (dw_all KX ar ds _ hall p h2)
  | .float _, _, _, p, _ => Bool.noConfusion (show false = true from p)
  | .dict _, _, _, p, _ => Bool.noConfusion (show false = true from p)
  | .bytearray _, _, _, p, _ => Bool.noConfusion (show false = true from p)
  | .set _, _, _, p, _ => Bool.noConfusion (show false = true from p)
  | .frozenset _, _, _, p, _ => Bool.noConfusion (show false = true from p)
  | .obj _ _, _, _, p, _ => Bool.noConfusion (show false = true from p)
theorem dw_all {Pm : Params} (KX : K.In h) (ar : ∀ a ∈ A, ArgOb h A a) : ∀ (ds : List WData) (vs : List Value), WellAll Pm h vs ds → plWs ds = true → (∀ u ∈ vs, OkU A u) → DwAll K (argH K h A) (vs.map toV) ds
  | [], _, x, _, _ => by
    cases x
    exact .nil
  | d :: ds, _, x, p, hu => by
    obtain ⟨v, vs, rfl, x1, x2⟩ := well_cons x
    have q : plW d = true ∧ plWs ds = true := Bool.and_eq_true_iff.mp p
    exact .cons (dw_one KX ar d v x1 q.1 (hu _ (List.mem_cons_self ..))) (dw_all KX ar ds vs x2 q.2 fun u m => hu u (List.mem_cons_of_mem _ m))
end
end
theorem spec_call {P : Program} {w : World} {K : PySem.W.Frag} {mg mb : Str → Option Value} {CX : CXT} {k : Nat} {fa : Addr} {fd : FuncData} {ps : List Str} {sp : Sp} {s₁ : Shared} {vals : List Value} {ds : List WData} {R : PySem.W.WRecords} {cl : Str → Option Addr} {d0 : WData}
    (KX : K.In s₁.heap) (hns : s₁.heap.Ns mainGlobals mg) (hb : s₁.heap.Ns builtinsNs mb) (hbb : ∀ x : Str, x ≠ "__name__" → mb x = bootBuiltins x) (hlim : s₁.heap.NoLimit) (hg : s₁.gens = #[])
    (hwl : WellAll w.params s₁.heap vals ds) (hpl : plWs ds = true) (hwt : ∀ d ∈ ds, d.weight ≤ 1048576) (hr : Room k callerA)
    (F : ∀ base : Heap, K.In base → base.Ns mainGlobals mg → FnOk P w K mg base CX k fa fd ps sp) (hbind : ∀ (s : Shared) (us : List Value), us.length = ps.length → BindsTo s fd ⟨us, []⟩ (ps.zip us)) (hlen : ds.length = ps.length)
    (hsp : ∀ (H : Hp) (xs : List V), OnlyF H → DwAll K H xs ds → sp xs H (fun v H' => Dw K H' v d0) fun _ _ _ => False)
    (hCX : ∀ H e s', CX [] H s₁ (fun _ _ _ => False) e s' → False) :
    codeAny (model P w) callerA (.call (.ref fa) ⟨vals, []⟩) (fun r s' => ∃ u as, r = .ok (.ret u) ∧ ReadsW R cl s'.heap u d0 as ∧ OldK s₁.heap s'.heap ∧ s'.os = s₁.os ∧ AllBare s'.gens) s₁ := by
  obtain ⟨A, ho, ar⟩ := area_all ds vals hwl hpl hwt
  have hO : OnlyF (argH K s₁.heap A) := argH_only ar
  have hok : HOk P w (argH K s₁.heap A) s₁.heap := argH_ok ar
  have hS := dw_all KX ar ds vals hwl hpl ho
  have hV := vals_toV ho
  have hK : ∀ b u, argH K s₁.heap A b = some u → K.lookup b = none := fun b u q => (argH_is ar q).1
  have noA : ∀ {b : Addr} {o : Obj} {es : Array DictEntry} {ep : Nat}, s₁.heap.get? b = some o → o.data = .dict es ep → argH K s₁.heap A b = none := fun {b o es ep} e d => by
    cases q : argH K s₁.heap A b with
    | none => rfl
    | some u =>
      obtain ⟨_, vs, _, _, ⟨e2, _⟩ | ⟨e2, _⟩⟩ := argH_is ar q
      · rw [e2] at e
        cases e
        have d' : Data.seq vs.toArray _ = Data.dict es ep := d
        cases d'
      · rw [e2] at e
        cases e
        have d' : Data.seq vs.toArray _ = Data.dict es ep := d
        cases d'
  generalize argH K s₁.heap A = H at hO hok hS hK noA
  have base_of : ∀ {b : Addr} {o : Obj}, s₁.heap.get? b = some o → H b = none → (hidT s₁.heap H).get? b = some o := fun e n => hidT_get e n
  have nsK : ∀ {b : Addr} {m : Str → Option Value}, s₁.heap.Ns b m → (hidT s₁.heap H).Ns b m := fun {b m} ⟨o, es, ep, e, d, r⟩ => ⟨o, es, ep, base_of e (noA e d), d, r⟩
  have nK : ∀ b o, K.lookup b = some o → H b = none := fun b o e => by
    cases q : H b with
    | none => rfl
    | some u =>
      rw [hK b u q] at e
      cases e
  have hKb : K.In (hidT s₁.heap H) := fun b o e => base_of (KX b o e) (nK b o e)
  have hM : Mod K mg (hidT s₁.heap H) := ⟨hKb, nsK hns, ⟨mb, nsK hb, hbb⟩, let ⟨mc, h1, h2⟩ := hlim; ⟨mc, nsK h1, h2⟩⟩
  have e0 : Env0 P w K mg (hidT s₁.heap H) callerA [] s₁ H := ⟨rfl, hM, fun b o e => of_hidT e, Nat.le_of_eq (hidT_size _ _), trivial, fun b hb => absurd (show b ∈ ([] : List Addr) from hb) (by simp), hok, .of_eq hg⟩
  have hl : vals.length = ps.length := by rw [wellAll_len hwl]; exact hlen
  refine codeAny_mono ((F _ hKb (nsK hns)).run callerA [] s₁ H ⟨vals, []⟩ vals (vals.map toV) _ _ hr e0 (hbind s₁ vals hl) hV (hsp H _ hO hS)) fun r s' x => ?_
  cases r with
  | error e => exact (hCX H e s' x).elim
  | ok fl =>
    cases fl with
    | next => exact False.elim x
    | brk => exact False.elim x
    | cont => exact False.elim x
    | ret u =>
      obtain ⟨v, H', os, bare, un, hok', r', q⟩ := x
      have kept : ∀ b o, s₁.heap.get? b = some o → s'.heap.get? b = some o := fun b o e => by
        cases q2 : H b with
        | none => exact un.keep b o e q2 (by intro z; exact absurd (show b ∈ ([] : List Addr) from z) (by simp)) (by simp)
        | some u2 =>
          rcases hO b with z | ⟨ob, u3, z⟩
          · rw [q2] at z
            cases z
          · have z2 := un.frzs b ob _ z
            obtain ⟨e1, _⟩ := hok b _ z
            obtain ⟨e2, _⟩ := hok' b _ z2
            rw [e] at e1
            cases e1
            exact e2
      have KX' : K.In s'.heap := fun b o e => kept b o (KX b o e)
      obtain ⟨as, hrd⟩ := Dw.reads (R := R) (cl := cl) hok' KX' d0 v u q r'
      exact ⟨u, as, rfl, hrd, OldK.of_keep kept, os, bare⟩
theorem layable_weight {ds : List WData} (h : WData.layableAll ds = true) : ∀ d ∈ ds, d.weight ≤ 1048576 := fun d hd =>
  (PySem.W.layableW_iff.mp (List.all_eq_true.mp h d hd)).2.2
theorem encAll_len : ∀ (cs : List Codec) (a : Codec.denoteAll cs), (Codec.encAll cs a).length = cs.length
  | [], _ => rfl
  | c :: cs, a => by
    show (Codec.encAll cs a.2).length + 1 = cs.length + 1
    rw [encAll_len cs a.2]
/-- the goal that k_headS leaves (case hc), from the promise of the row's def: whatever the arguments that the codecs let and the row asks for, the def gives what stands for enc (f ..) -/
theorem walk_spec {r : OpenSpec} {k : Nat} {q : Program} {loose : List Str} {XP : (Str → Option Value) → Heap → Prop} {YP : World → Heap → Prop} {d : DefRec} {K : Params → PySem.W.Frag} {CX : World → CXT} {ps : List Str} {sp : World → Sp}
    (hwell : r.wellSaid = true) (hdf : d.params.defaults = []) (hlen : r.args.length = ps.length) (hr : Room k callerA)
    (hY : ∀ (w : World) (h : Heap), YP w h → (K w.params).In h)
    (F : ∀ (w : World) (mg : Str → Option Value) (fa : Addr) (h : Heap), YP w h → (K w.params).In h → h.Ns mainGlobals mg → mg d.name = some (.ref fa) →
      ∃ fd : FuncData, (∀ (s : Shared) (us : List Value), us.length = ps.length → BindsTo s fd ⟨us, []⟩ (ps.zip us)) ∧
        ∀ base : Heap, (K w.params).In base → base.Ns mainGlobals mg → FnOk r.prog w (K w.params) mg base (CX w) k fa fd ps (sp w))
    (hsp : ∀ (w : World) (H : Hp) (xs : List V) (a : Codec.denoteAll r.args), OnlyF H → Codec.withinAll r.args a = true → Codec.app r.args r.asked a = true → DwAll (K w.params) H xs (Codec.encAll r.args a) →
      sp w xs H (fun v H' => Dw (K w.params) H' v (r.ret.enc (Codec.app r.args r.f a))) fun _ _ _ => False)
    (hCX : ∀ (w : World) (H : Hp) (s : Shared) (e : Value) (s' : Shared), CX w [] H s (fun _ _ _ => False) e s' → False) :
    PySem.W.WalkOS q loose XP YP r d [] (fun f vs => PySem.call f vs) := by
  intro w s_0 s₁ mg mb G Y fa o pm cd doc dV kV ho hd hcd hD hmg hg args vals as hpre hlay hrd hwl hlo
  obtain ⟨a, e1, e2⟩ := PySem.W.os_pre_some hpre
  obtain ⟨e3, hwi⟩ := Codec.encAll_of_decAll r.args args a e1
  subst e3
  have KX := hY w _ Y
  obtain ⟨fd, hb, hF⟩ := F w mg fa _ Y KX G.T.g hmg
  refine PySem.W.enter_call (codeAny_mono (spec_call (R := []) (cl := classAt s_0.heap) (d0 := r.ret.enc (Codec.app r.args r.f a)) KX G.T.g G.T.b G.T.builtins G.T.nolimit hg hwl (pl_encAll _ _) (layable_weight hlay) hr hF hb (by rw [encAll_len]; exact hlen)
    (fun H xs hO hS => hsp w H xs a hO hwi e2 hS) fun H e s' => hCX w H s₁ e s') fun r' s' hq => ?_)
  obtain ⟨u, as', rfl, h1, h2, h3, h4⟩ := hq
  exact ⟨.inl ⟨u, _, as', rfl, fun _ => rfl, h1, (OpenSpec.post_iff hwell hwi _ _).mpr rfl, fun z => Bool.noConfusion (show false = true from z)⟩, h2, h3, h4⟩
/-- the same where the promise hangs on the written part alone -/
theorem walk_specK {r : OpenSpec} {k : Nat} {q : Program} {loose : List Str} {XP : (Str → Option Value) → Heap → Prop} {YP : World → Heap → Prop} {d : DefRec} {K : Params → PySem.W.Frag} {CX : CXT} {ps : List Str} {sp : PySem.W.Frag → Sp}
    (hwell : r.wellSaid = true) (hdf : d.params.defaults = []) (hlen : r.args.length = ps.length) (hr : Room k callerA)
    (hY : ∀ (w : World) (h : Heap), YP w h → (K w.params).In h)
    (F : ∀ (w : World) (mg : Str → Option Value) (fa : Addr) (h : Heap), YP w h → (K w.params).In h → h.Ns mainGlobals mg → mg d.name = some (.ref fa) →
      ∃ fd : FuncData, (∀ (s : Shared) (us : List Value), us.length = ps.length → BindsTo s fd ⟨us, []⟩ (ps.zip us)) ∧
        ∀ base : Heap, (K w.params).In base → base.Ns mainGlobals mg → FnOk r.prog w (K w.params) mg base CX k fa fd ps (sp (K w.params)))
    (hsp : ∀ (K : PySem.W.Frag) (H : Hp) (xs : List V) (a : Codec.denoteAll r.args), OnlyF H → Codec.withinAll r.args a = true → Codec.app r.args r.asked a = true → DwAll K H xs (Codec.encAll r.args a) →
      sp K xs H (fun v H' => Dw K H' v (r.ret.enc (Codec.app r.args r.f a))) fun _ _ _ => False)
    (hCX : ∀ (H : Hp) (s : Shared) (e : Value) (s' : Shared), CX [] H s (fun _ _ _ => False) e s' → False) :
    PySem.W.WalkOS q loose XP YP r d [] (fun f vs => PySem.call f vs) :=
  walk_spec (K := K) (CX := fun _ => CX) (sp := fun w => sp (K w.params)) hwell hdf hlen hr hY F (fun w H xs a h1 h2 h3 h4 => hsp (K w.params) H xs a h1 h2 h3 h4) fun _ H s e s' => hCX H s e s'
end L2
end
section
set_option linter.all false
namespace WW
/-! ### bytes and words -/
def Byt (l : List Int) : Prop := ∀ x ∈ l, 0 ≤ x ∧ x ≤ 255
theorem Byt.nil : Byt [] := fun _ h => by cases h
theorem Byt.cons {a : Int} {l : List Int} (h0 : 0 ≤ a) (h1 : a ≤ 255) (h : Byt l) : Byt (a :: l) := fun x hx => by
  rcases List.mem_cons.mp hx with rfl | hx
  · exact ⟨h0, h1⟩
  · exact h x hx
theorem Byt.append {a b : List Int} (ha : Byt a) (hb : Byt b) : Byt (a ++ b) := fun x hx => by
  rcases List.mem_append.mp hx with h | h
  · exact ha x h
  · exact hb x h
theorem Byt.sub {a b : List Int} (h : Byt b) (hs : ∀ x ∈ a, x ∈ b) : Byt a := fun x hx => h x (hs x hx)
theorem Byt.take {l : List Int} (h : Byt l) (n : Nat) : Byt (l.take n) := h.sub fun _ hx => List.mem_of_mem_take hx
theorem Byt.drop {l : List Int} (h : Byt l) (n : Nat) : Byt (l.drop n) := h.sub fun _ hx => List.mem_of_mem_drop hx
theorem Byt.replicate (n : Nat) : Byt (List.replicate n 0) := fun x hx => by
  rw [(List.mem_replicate.mp hx).2]
  exact ⟨by decide, by decide⟩
abbrev oct (l : List Int) : List UInt8 := Sd05Neutral.octets l
theorem oct_append (a b : List Int) : oct (a ++ b) = oct a ++ oct b := List.map_append
theorem oct_length (a : List Int) : (oct a).length = a.length := List.length_map _
theorem oct_take (a : List Int) (n : Nat) : oct (a.take n) = (oct a).take n := List.map_take
theorem oct_drop (a : List Int) (n : Nat) : oct (a.drop n) = (oct a).drop n := List.map_drop
theorem oct_back {l : List Int} (h : Byt l) : (oct l).map (fun (x : UInt8) => (x.toNat : Int)) = l := by
  induction l with
  | nil => rfl
  | cons a l ih =>
    have h1 := h a List.mem_cons_self
    show ((UInt8.ofNat a.toNat).toNat : Int) :: (oct l).map (fun (x : UInt8) => (x.toNat : Int)) = a :: l
    rw [ih (h.sub fun _ hx => List.mem_cons_of_mem _ hx)]
    congr 1
    rw [UInt8.toNat_ofNat']
    omega
/-- the number that bytes tell, the lowest first -/
def val (l : List Int) : Int := l.foldr (fun c x => c + 256 * x) 0
def le8 (n : Int) : List Int := (List.range 8).map fun k => n / 256 ^ k % 256
theorem le8_length (n : Int) : (le8 n).length = 8 := rfl
theorem le8_eq (n : Int) : le8 n = [n % 256, n / 256 % 256, n / 65536 % 256, n / 16777216 % 256, n / 4294967296 % 256, n / 1099511627776 % 256, n / 281474976710656 % 256, n / 72057594037927936 % 256] := by
  show [n / 256 ^ 0 % 256, n / 256 ^ 1 % 256, n / 256 ^ 2 % 256, n / 256 ^ 3 % 256, n / 256 ^ 4 % 256, n / 256 ^ 5 % 256, n / 256 ^ 6 % 256, n / 256 ^ 7 % 256] = _
  simp
theorem le8_byt (n : Int) : Byt (le8 n) := by
  rw [le8_eq]
  intro x hx
  simp only [List.mem_cons, List.not_mem_nil, or_false] at hx
  rcases hx with rfl | rfl | rfl | rfl | rfl | rfl | rfl | rfl <;> omega
theorem val_le8 {n : Int} (h0 : 0 ≤ n) (h1 : n < 18446744073709551616) : val (le8 n) = n := by
  rw [le8_eq]
  simp only [val, List.foldr]
  omega
theorem le8_val : ∀ {l : List Int}, l.length = 8 → Byt l → le8 (val l) = l
  | [a, b, c, d, e, f, g, i], _, h => by
    rw [le8_eq]
    simp only [val, List.foldr]
    have ha := h a (by simp)
    have hb := h b (by simp)
    have hc := h c (by simp)
    have hd := h d (by simp)
    have he := h e (by simp)
    have hf := h f (by simp)
    have hg := h g (by simp)
    have hi := h i (by simp)
    congr 1
    · omega
    congr 1
    · omega
    congr 1
    · omega
    congr 1
    · omega
    congr 1
    · omega
    congr 1
    · omega
    congr 1
    · omega
    congr 1
    omega
theorem val_bound : ∀ {l : List Int}, Byt l → 0 ≤ val l ∧ val l < 256 ^ l.length
  | [], _ => by decide
  | a :: l, h => by
    have h1 := h a List.mem_cons_self
    have h2 := val_bound (l := l) (h.sub fun _ hx => List.mem_cons_of_mem _ hx)
    show 0 ≤ a + 256 * val l ∧ a + 256 * val l < 256 ^ (l.length + 1)
    rw [Int.pow_succ]
    omega
theorem bytes8 {n : Nat} : Sd05.bytes 8 n = oct (le8 (n : Int)) := by
  unfold Sd05.bytes oct Sd05Neutral.octets le8
  rw [List.map_map]
  refine List.map_congr_left fun k _ => ?_
  show UInt8.ofNat (n / 256 ^ k % 256) = UInt8.ofNat (((n : Int) / 256 ^ k % 256).toNat)
  congr 1
/-- a number read off bytes -/
theorem foldr_oct {l : List Int} (h : Byt l) : (((oct l).foldr (fun c x => c.toNat + 256 * x) 0 : Nat) : Int) = val l := by
  induction l with
  | nil => rfl
  | cons a l ih =>
    have h1 := h a List.mem_cons_self
    have h2 := ih (h.sub fun _ hx => List.mem_cons_of_mem _ hx)
    show (((UInt8.ofNat a.toNat).toNat + 256 * (oct l).foldr (fun c x => c.toNat + 256 * x) 0 : Nat) : Int) = a + 256 * val l
    rw [← h2, UInt8.toNat_ofNat']
    omega
theorem at_oct {l : List Int} (h : Byt l) (off n : Nat) : ((Sd05.at_ (oct l) off n : Nat) : Int) = val ((l.drop off).take n) := by
  unfold Sd05.at_
  rw [← oct_drop, ← oct_take]
  exact foldr_oct ((h.drop off).take n)
/-! ### a part of a list replaced -/
theorem put_mid {A B C B' : List UInt8} {n : Nat} (hn : n = A.length) (h : B'.length = B.length) : Sd05.put (A ++ (B ++ C)) n B' = A ++ (B' ++ C) := by
  subst hn
  unfold Sd05.put
  rw [List.take_left', h, List.drop_append, List.drop_append]
  · simp
  · rfl
/-! ### the window -/
structure Win where
  rows : List (List Int)
  bell : Int
  count : Int
  spare : List Int
def Win.all (w : Win) : List Int := w.rows.flatten ++ (le8 w.bell ++ (le8 w.count ++ w.spare))
def Win.flat (w : Win) : List UInt8 := oct w.all
def Row (r : List Int) : Prop := r.length = 64 ∧ Byt r
structure WOk (w : Win) : Prop where
  n : w.rows.length = 64
  r : ∀ r ∈ w.rows, Row r
  b0 : 0 ≤ w.bell
  b1 : w.bell < 18446744073709551616
  c0 : 0 ≤ w.count
  c1 : w.count < 18446744073709551616
  s : w.spare.length = 48
  sb : Byt w.spare
theorem flatten_len {l : List (List Int)} (h : ∀ r ∈ l, Row r) : l.flatten.length = 64 * l.length := by
  induction l with
  | nil => rfl
  | cons a l ih =>
    rw [List.flatten_cons, List.length_append, ih fun r hr => h r (List.mem_cons_of_mem _ hr), (h a List.mem_cons_self).1, List.length_cons]
    omega
theorem flatten_byt {l : List (List Int)} (h : ∀ r ∈ l, Row r) : Byt l.flatten := fun x hx => by
  obtain ⟨r, hr, hx⟩ := List.mem_flatten.mp hx
  exact (h r hr).2 x hx
theorem WOk.byt {w : Win} (o : WOk w) : Byt w.all := (flatten_byt o.r).append ((le8_byt _).append ((le8_byt _).append o.sb))
theorem WOk.len {w : Win} (o : WOk w) : w.all.length = 4160 := by
  unfold Win.all
  rw [List.length_append, List.length_append, List.length_append, flatten_len o.r, o.n, o.s, le8_length, le8_length]
theorem split_at {l : List (List Int)} {i : Nat} {r : List Int} (h : l[i]? = some r) : l = l.take i ++ (r :: l.drop (i + 1)) := by
  obtain ⟨hi, e⟩ := List.getElem?_eq_some_iff.mp h
  rw [← e, ← List.drop_eq_getElem_cons hi, List.take_append_drop]
theorem set_at {l : List (List Int)} {i : Nat} {r r' : List Int} (h : l[i]? = some r) : l.set i r' = l.take i ++ (r' :: l.drop (i + 1)) := by
  obtain ⟨hi, e⟩ := List.getElem?_eq_some_iff.mp h
  rw [List.set_eq_take_append_cons_drop, if_pos hi]
theorem WOk.parts {w : Win} (o : WOk w) {i : Nat} {r : List Int} (h : w.rows[i]? = some r) :
    w.flat = oct (w.rows.take i).flatten ++ (oct r ++ oct ((w.rows.drop (i + 1)).flatten ++ (le8 w.bell ++ (le8 w.count ++ w.spare)))) ∧ (oct (w.rows.take i).flatten).length = 64 * i := by
  constructor
  · unfold Win.flat Win.all
    rw [← oct_append, ← oct_append]
    congr 1
    conv => lhs; rw [split_at h]
    rw [List.flatten_append, List.flatten_cons, List.append_assoc, List.append_assoc]
  · rw [oct_length, flatten_len fun r hr => o.r r (List.mem_of_mem_take hr), List.length_take]
    have := (List.getElem?_eq_some_iff.mp h).1
    omega
theorem WOk.slot {w : Win} (o : WOk w) {i : Nat} {r : List Int} (h : w.rows[i]? = some r) : Sd05.slot w.flat i = oct r := by
  obtain ⟨e, l⟩ := o.parts h
  unfold Sd05.slot
  rw [e, ← l, List.drop_left' rfl]
  have hr := (o.r r (List.mem_of_getElem? h)).1
  rw [List.take_left' (by rw [oct_length, hr])]
theorem WOk.setSlot {w : Win} (o : WOk w) {i : Nat} {m : List Int} (hi : i < 64) (hm : m.length = 64) : Sd05.setSlot w.flat i (oct m) = Win.flat { w with rows := w.rows.set i m } := by
  obtain ⟨r, h⟩ : ∃ r, w.rows[i]? = some r := ⟨_, List.getElem?_eq_getElem (by rw [o.n]; exact hi)⟩
  obtain ⟨e, l⟩ := o.parts h
  have hr := (o.r r (List.mem_of_getElem? h)).1
  unfold Sd05.setSlot
  rw [e, put_mid l.symm (by rw [oct_length, oct_length, hr, hm])]
  unfold Win.flat Win.all
  rw [← oct_append, ← oct_append]
  congr 1
  show _ = (w.rows.set i m).flatten ++ _
  rw [set_at h, List.flatten_append, List.flatten_cons, List.append_assoc, List.append_assoc]
theorem mem_set' {l : List (List Int)} {i : Nat} {m r : List Int} (h : r ∈ l.set i m) : r = m ∨ r ∈ l := by
  rcases List.mem_or_eq_of_mem_set h with h | h
  · exact .inr h
  · exact .inl h
theorem WOk.setRow {w : Win} (o : WOk w) {i : Nat} {m : List Int} (hm : Row m) : WOk { w with rows := w.rows.set i m } :=
  ⟨by show (w.rows.set i m).length = 64; rw [List.length_set]; exact o.n, fun r hr => by
    rcases mem_set' hr with e | h
    · rw [e]; exact hm
    · exact o.r r h, o.b0, o.b1, o.c0, o.c1, o.s, o.sb⟩
theorem WOk.setBell {w : Win} (o : WOk w) {x : Int} (h0 : 0 ≤ x) (h1 : x < 18446744073709551616) : WOk { w with bell := x } := ⟨o.n, o.r, h0, h1, o.c0, o.c1, o.s, o.sb⟩
theorem WOk.setCount {w : Win} (o : WOk w) {x : Int} (h0 : 0 ≤ x) (h1 : x < 18446744073709551616) : WOk { w with count := x } := ⟨o.n, o.r, o.b0, o.b1, h0, h1, o.s, o.sb⟩
theorem WOk.ring {w : Win} (o : WOk w) (x : Nat) : Sd05.ring w.flat x = Win.flat { w with bell := (x : Int) } := by
  unfold Sd05.ring
  rw [bytes8]
  have e : w.flat = oct w.rows.flatten ++ (oct (le8 w.bell) ++ oct (le8 w.count ++ w.spare)) := by
    unfold Win.flat Win.all
    rw [oct_append, oct_append]
  rw [e, put_mid (by rw [oct_length, flatten_len o.r, o.n]; rfl) (by rw [oct_length, oct_length]; rfl)]
  unfold Win.flat Win.all
  rw [← oct_append, ← oct_append]
theorem WOk.at_count {w : Win} (o : WOk w) : (Sd05.at_ w.flat Sd05.COUNT 8 : Int) = w.count := by
  unfold Win.flat
  rw [at_oct o.byt]
  unfold Win.all
  rw [← List.append_assoc, List.drop_left' (by rw [List.length_append, flatten_len o.r, o.n]; rfl), List.take_left' (le8_length _)]
  exact val_le8 o.c0 o.c1
theorem WOk.counted {w : Win} (o : WOk w) : Sd05.counted w.flat 1 = Win.flat { w with count := (w.count + 1) % 18446744073709551616 } := by
  unfold Sd05.counted
  rw [bytes8]
  have ec : (((Sd05.at_ w.flat Sd05.COUNT 8 + 1) % 2 ^ 64 : Nat) : Int) = (w.count + 1) % 18446744073709551616 := by
    rw [← o.at_count]
    omega
  rw [ec]
  have e : w.flat = oct (w.rows.flatten ++ le8 w.bell) ++ (oct (le8 w.count) ++ oct w.spare) := by
    unfold Win.flat Win.all
    rw [← oct_append, ← oct_append, List.append_assoc]
  rw [e, put_mid (by rw [oct_length, List.length_append, flatten_len o.r, o.n]; rfl) (by rw [oct_length, oct_length]; rfl)]
  unfold Win.flat Win.all
  rw [← oct_append, ← oct_append, List.append_assoc]
/-- rows from i on get these -/
def setRows (rows : List (List Int)) (i : Nat) : List (List Int) → List (List Int)
  | [] => rows
  | x :: r => setRows (rows.set i x) (i + 1) r
theorem WOk.setRows : ∀ {w : Win} (_ : WOk w) {i : Nat} {ms : List (List Int)}, i + ms.length ≤ 64 → (∀ m ∈ ms, Row m) → WOk { w with rows := setRows w.rows i ms } ∧ Sd05.setAll w.flat i (ms.map oct) = Win.flat { w with rows := setRows w.rows i ms }
  | w, o, i, [], _, _ => ⟨o, rfl⟩
  | w, o, i, m :: ms, hl, hm => by
    have h1 := hm m List.mem_cons_self
    have hl' : i + (ms.length + 1) ≤ 64 := hl
    have ih := WOk.setRows (o.setRow (i := i) h1) (i := i + 1) (ms := ms) (by omega) fun r hr => hm r (List.mem_cons_of_mem _ hr)
    refine ⟨ih.1, ?_⟩
    show Sd05.setAll (Sd05.setSlot w.flat i (oct m)) (i + 1) (ms.map oct) = _
    rw [o.setSlot (by omega) h1.1]
    exact ih.2
theorem setRows_length : ∀ (ms : List (List Int)) (rows : List (List Int)) (i : Nat), (setRows rows i ms).length = rows.length
  | [], _, _ => rfl
  | m :: ms, rows, i => by
    show (setRows (rows.set i m) (i + 1) ms).length = _
    rw [setRows_length ms, List.length_set]
theorem setRows_snoc : ∀ (ms : List (List Int)) (rows : List (List Int)) (i : Nat) (m : List Int), setRows rows i (ms ++ [m]) = (setRows rows i ms).set (i + ms.length) m
  | [], _, _, _ => rfl
  | a :: ms, rows, i, m => by
    show setRows (rows.set i a) (i + 1) (ms ++ [m]) = (setRows (rows.set i a) (i + 1) ms).set (i + (ms.length + 1)) m
    rw [setRows_snoc ms, Nat.add_right_comm i 1 ms.length]
    rfl
end WW
end
section
set_option linter.all false
namespace WW
theorem step_op {s : List UInt8} {c : List (List Int)} {o : Sd05.Op} (h0 : Sd05Neutral.opOf c = some o) (h1 : Sd05Neutral.step s c = (match Sd05Neutral.opOf c with
    | some o => ((Sd05.spec ⟨s, o⟩).window, (Sd05.spec ⟨s, o⟩).value :: (Sd05.spec ⟨s, o⟩).out.map fun (x : UInt8) => (x.toNat : Int))
    | none => (s, []))) : Sd05Neutral.step s c = ((Sd05.spec ⟨s, o⟩).window, (Sd05.spec ⟨s, o⟩).value :: (Sd05.spec ⟨s, o⟩).out.map fun (x : UInt8) => (x.toNat : Int)) := by
  rw [h1, h0]
theorem row_at {w : Win} (o : WOk w) {i : Nat} (hi : i < 64) : ∃ r, w.rows[i]? = some r ∧ Row r := by
  have hl : i < w.rows.length := by rw [o.n]; exact hi
  have h : w.rows[i]? = some w.rows[i] := List.getElem?_eq_getElem hl
  exact ⟨_, h, o.r _ (List.mem_of_getElem? h)⟩
/-! ### send -/
theorem st_send_no {s : List UInt8} {i : Int} {m : List Int} (hi : 64 ≤ i) : Sd05Neutral.step s [[1, i], m] = (s, [-1]) := by
  rw [step_op (c := [[1, i], m]) rfl rfl]
  simp only [Sd05.spec]
  rw [if_neg (by show ¬ i.toNat < 64; omega)]
  rfl
def Win.send (w : Win) (i : Nat) (m : List Int) : Win := { rows := w.rows.set i m, count := (w.count + 1) % 18446744073709551616, bell := (i : Int) + 1, spare := w.spare }
theorem st_send {w : Win} (o : WOk w) {i : Nat} {m : List Int} (hi : i < 64) (hm : Row m) : Sd05Neutral.step w.flat [[1, (i : Int)], m] = ((w.send i m).flat, [0]) ∧ WOk (w.send i m) := by
  have o1 := o.setRow (i := i) hm
  have o2 := o1.setCount (x := (w.count + 1) % 18446744073709551616) (by omega) (by omega)
  have o3 := o2.setBell (x := (i : Int) + 1) (by omega) (by omega)
  refine ⟨?_, o3⟩
  rw [step_op (c := [[1, (i : Int)], m]) rfl rfl]
  simp only [Sd05.spec]
  rw [if_pos (by show (i : Int).toNat < 64; omega)]
  show (Sd05.ring (Sd05.counted (Sd05.setSlot w.flat i (oct m)) 1) (i + 1), [(0 : Int)]) = _
  rw [o.setSlot hi hm.1, o1.counted, o2.ring]
  rfl
/-! ### patch -/
def patched (r : List Int) (off : Nat) (m : List Int) : List Int := r.take off ++ (m ++ r.drop (off + m.length))
theorem patched_row {r : List Int} (hr : Row r) {off : Nat} {m : List Int} (hm : Byt m) (hl : off + m.length ≤ 64) : Row (patched r off m) := by
  have h1 := hr.1
  refine ⟨?_, (hr.2.take _).append (hm.append (hr.2.drop _))⟩
  unfold patched
  rw [List.length_append, List.length_append, List.length_take, List.length_drop]
  omega
theorem st_patch_no {s : List UInt8} {i off : Int} {m : List Int} (h0 : 0 ≤ off) (h : 64 ≤ i ∨ 64 < off + (m.length : Int)) : Sd05Neutral.step s [[2, i, off, (m.length : Int)], m] = (s, [-1]) := by
  rw [step_op (c := [[2, i, off, (m.length : Int)], m]) rfl rfl]
  simp only [Sd05.spec]
  rw [if_neg (by
    show ¬ (i.toNat < 64 ∧ 0 ≤ (m.length : Int) ∧ (off.toNat : Int) + (m.length : Int) ≤ 64)
    omega)]
  rfl
def Win.patch (w : Win) (i off : Nat) (m : List Int) : Win := { w with rows := w.rows.set i (patched (w.rows.getD i []) off m) }
theorem st_patch {w : Win} (o : WOk w) {i off : Nat} {m : List Int} (hi : i < 64) (hm : Byt m) (hl : off + m.length ≤ 64) :
    Sd05Neutral.step w.flat [[2, (i : Int), (off : Int), (m.length : Int)], m] = ((w.patch i off m).flat, [0]) ∧ WOk (w.patch i off m) := by
  obtain ⟨r, h, hr⟩ := row_at o hi
  have e : w.rows.getD i [] = r := by rw [List.getD_eq_getElem?_getD, h]; rfl
  have hp := patched_row hr hm hl
  unfold Win.patch
  rw [e]
  refine ⟨?_, o.setRow hp⟩
  rw [step_op (c := [[2, (i : Int), (off : Int), (m.length : Int)], m]) rfl rfl]
  simp only [Sd05.spec]
  rw [if_pos (by
    show ((i : Int).toNat < 64 ∧ 0 ≤ (m.length : Int) ∧ ((off : Int).toNat : Int) + (m.length : Int) ≤ 64)
    omega)]
  show (Sd05.setSlot w.flat i (Sd05.put (Sd05.slot w.flat i) off (oct m)), [(0 : Int)]) = _
  rw [o.slot h]
  have ep : Sd05.put (oct r) off (oct m) = oct (patched r off m) := by
    unfold Sd05.put patched
    rw [oct_append, oct_append, oct_take, oct_drop, oct_length]
  rw [ep, o.setSlot hi hp.1]
/-! ### fill -/
def fillRow (x st : Int) (k : Nat) : List Int := (List.range 8).flatMap fun (j : Nat) => le8 ((x + st * (8 * (k : Int) + (j : Int))) % 18446744073709551616)
theorem fillRow_row (x st : Int) (k : Nat) : Row (fillRow x st k) := by
  refine ⟨rfl, fun y hy => ?_⟩
  obtain ⟨j, _, hj⟩ := List.mem_flatMap.mp hy
  exact le8_byt _ y hj
theorem oct_flatMap {α : Type} (f : α → List Int) (l : List α) : oct (l.flatMap f) = l.flatMap fun a => oct (f a) := by
  induction l with
  | nil => rfl
  | cons a l ih => rw [List.flatMap_cons, List.flatMap_cons, oct_append, ih]
def Win.fill (w : Win) (i n : Nat) (x st : Int) : Win := { w with rows := setRows w.rows i ((List.range n).map (fillRow x st)) }
theorem st_fill_no {s : List UInt8} {i n x st : Int} (h0 : 0 ≤ i) (h : n < 0 ∨ 64 < i + n) : Sd05Neutral.step s [[3, i, n, x, st]] = (s, [-1]) := by
  rw [step_op (c := [[3, i, n, x, st]]) rfl rfl]
  simp only [Sd05.spec]
  rw [if_neg (by
    show ¬ (0 ≤ n ∧ (i.toNat : Int) + n ≤ ((64 : Nat) : Int))
    omega)]
  rfl
theorem st_fill {w : Win} (o : WOk w) {i n : Nat} {x st : Int} (h : i + n ≤ 64) (hx : 0 ≤ x) (hs : 0 ≤ st) :
    Sd05Neutral.step w.flat [[3, (i : Int), (n : Int), x, st]] = ((w.fill i n x st).flat, [0]) ∧ WOk (w.fill i n x st) := by
  have q := o.setRows (i := i) (ms := (List.range n).map (fillRow x st)) (by rw [List.length_map, List.length_range]; exact h) (fun m hm => by
    obtain ⟨k, _, rfl⟩ := List.mem_map.mp hm
    exact fillRow_row x st k)
  refine ⟨?_, q.1⟩
  rw [step_op (c := [[3, (i : Int), (n : Int), x, st]]) rfl rfl]
  simp only [Sd05.spec]
  rw [if_pos (by
    show (0 ≤ (n : Int) ∧ ((i : Int).toNat : Int) + (n : Int) ≤ ((64 : Nat) : Int))
    omega)]
  show (Sd05.setAll w.flat i ((List.range n).map fun k => (List.range 8).flatMap fun j => Sd05.bytes 8 ((x.toNat + st.toNat * (8 * k + j)) % 2 ^ 64)), [(0 : Int)]) = _
  rw [← show _ = Win.flat (w.fill i n x st) from q.2, List.map_map]
  refine congrArg (fun z => (z, [(0 : Int)])) (congrArg (Sd05.setAll w.flat i) (List.map_congr_left fun k _ => ?_))
  show _ = oct (fillRow x st k)
  unfold fillRow
  rw [oct_flatMap]
  refine congrArg (fun f => List.flatMap f (List.range 8)) (funext fun j => ?_)
  rw [bytes8]
  congr 2
  obtain ⟨a, rfl⟩ := Int.eq_ofNat_of_zero_le hx
  obtain ⟨b, rfl⟩ := Int.eq_ofNat_of_zero_le hs
  simp
/-! ### move -/
def Win.move (w : Win) (i j n : Nat) : Win := { w with rows := setRows w.rows j ((w.rows.drop i).take n) }
theorem st_move_no {s : List UInt8} {i j n : Int} (h0 : 0 ≤ i) (h1 : 0 ≤ j) (h : n < 0 ∨ 64 < i + n ∨ 64 < j + n) : Sd05Neutral.step s [[4, i, j, n]] = (s, [-1]) := by
  rw [step_op (c := [[4, i, j, n]]) rfl rfl]
  simp only [Sd05.spec]
  rw [if_neg (by
    show ¬ (0 ≤ n ∧ (i.toNat : Int) + n ≤ ((64 : Nat) : Int) ∧ (j.toNat : Int) + n ≤ ((64 : Nat) : Int))
    omega)]
  rfl
theorem map_slots {w : Win} (o : WOk w) {i : Nat} : ∀ {n : Nat}, i + n ≤ 64 → (List.range n).map (fun k => Sd05.slot w.flat (i + k)) = ((w.rows.drop i).take n).map oct
  | 0, _ => by simp
  | n + 1, h => by
    obtain ⟨r, hr, _⟩ := row_at o (i := i + n) (by omega)
    rw [List.range_succ, List.map_append, map_slots o (n := n) (by omega)]
    show _ ++ [Sd05.slot w.flat (i + n)] = _
    rw [o.slot hr, List.take_add_one, List.getElem?_drop, hr, List.map_append]
    rfl
theorem st_move {w : Win} (o : WOk w) {i j n : Nat} (hi : i + n ≤ 64) (hj : j + n ≤ 64) : Sd05Neutral.step w.flat [[4, (i : Int), (j : Int), (n : Int)]] = ((w.move i j n).flat, [0]) ∧ WOk (w.move i j n) := by
  have q := o.setRows (i := j) (ms := (w.rows.drop i).take n) (by rw [List.length_take]; omega) (fun m hm => o.r m (List.mem_of_mem_drop (List.mem_of_mem_take hm)))
  refine ⟨?_, q.1⟩
  rw [step_op (c := [[4, (i : Int), (j : Int), (n : Int)]]) rfl rfl]
  simp only [Sd05.spec]
  rw [if_pos (by
    show (0 ≤ (n : Int) ∧ ((i : Int).toNat : Int) + (n : Int) ≤ ((64 : Nat) : Int) ∧ ((j : Int).toNat : Int) + (n : Int) ≤ ((64 : Nat) : Int))
    omega)]
  show (Sd05.setAll w.flat j ((List.range n).map fun k => Sd05.slot w.flat (i + k)), [(0 : Int)]) = _
  rw [map_slots o hi, q.2]
  rfl
/-! ### swap -/
def Win.swap (w : Win) (i j : Nat) : Win := { w with rows := (w.rows.set i (w.rows.getD j [])).set j (w.rows.getD i []) }
theorem st_swap_no {s : List UInt8} {i j : Int} (h : 64 ≤ i ∨ 64 ≤ j) : Sd05Neutral.step s [[5, i, j]] = (s, [-1]) := by
  rw [step_op (c := [[5, i, j]]) rfl rfl]
  simp only [Sd05.spec]
  rw [if_neg (by
    show ¬ (i.toNat < 64 ∧ j.toNat < 64)
    omega)]
  rfl
theorem st_swap {w : Win} (o : WOk w) {i j : Nat} (hi : i < 64) (hj : j < 64) : Sd05Neutral.step w.flat [[5, (i : Int), (j : Int)]] = ((w.swap i j).flat, [0]) ∧ WOk (w.swap i j) := by
  obtain ⟨r, h, hr⟩ := row_at o hi
  obtain ⟨r', h', hr'⟩ := row_at o hj
  have e : w.rows.getD i [] = r := by rw [List.getD_eq_getElem?_getD, h]; rfl
  have e' : w.rows.getD j [] = r' := by rw [List.getD_eq_getElem?_getD, h']; rfl
  unfold Win.swap
  rw [e, e']
  have o1 := o.setRow (i := i) hr'
  refine ⟨?_, o1.setRow (i := j) hr⟩
  rw [step_op (c := [[5, (i : Int), (j : Int)]]) rfl rfl]
  simp only [Sd05.spec]
  rw [if_pos (by
    show ((i : Int).toNat < 64 ∧ (j : Int).toNat < 64)
    omega)]
  show (Sd05.setSlot (Sd05.setSlot w.flat i (Sd05.slot w.flat j)) j (Sd05.slot w.flat i), [(0 : Int)]) = _
  rw [o.slot h, o.slot h', o.setSlot hi hr'.1, o1.setSlot hj hr.1]
/-! ### take -/
def chk (r : List Int) : Int := (List.range 8).foldl (fun a k => ((a * 2 + a / 9223372036854775808) % 18446744073709551616 + val ((r.drop (8 * k)).take 8)) % 18446744073709551616) 0
theorem check_oct {r : List Int} (h : Byt r) : ((Sd05.check (oct r) : Nat) : Int) = chk r := by
  unfold Sd05.check chk
  have gen : ∀ (l : List Nat) (a : Nat), ((l.foldl (fun a k => ((a * 2 + a / 2 ^ 63) % 2 ^ 64 + Sd05.at_ (oct r) (8 * k) 8) % 2 ^ 64) a : Nat) : Int) =
      l.foldl (fun a k => ((a * 2 + a / 9223372036854775808) % 18446744073709551616 + val ((r.drop (8 * k)).take 8)) % 18446744073709551616) (a : Int) := by
    intro l
    induction l with
    | nil => intro a; rfl
    | cons k l ih =>
      intro a
      rw [List.foldl_cons, List.foldl_cons, ih]
      congr 1
      rw [← at_oct h (8 * k) 8]
      omega
  exact gen _ 0
def Win.take (w : Win) (i : Nat) : Win := { w with rows := w.rows.set i (List.replicate 64 0) }
theorem st_take_no {s : List UInt8} {i : Int} (h : 64 ≤ i) : Sd05Neutral.step s [[6, i]] = (s, [-1]) := by
  rw [step_op (c := [[6, i]]) rfl rfl]
  simp only [Sd05.spec]
  rw [if_neg (by
    show ¬ (i.toNat < 64)
    omega)]
  rfl
theorem zero_row : Row (List.replicate 64 0) := ⟨List.length_replicate, Byt.replicate 64⟩
theorem st_take {w : Win} (o : WOk w) {i : Nat} (hi : i < 64) : Sd05Neutral.step w.flat [[6, (i : Int)]] = ((w.take i).flat, 0 :: (w.rows.getD i [] ++ le8 (chk (w.rows.getD i [])))) ∧ WOk (w.take i) := by
  obtain ⟨r, h, hr⟩ := row_at o hi
  have e : w.rows.getD i [] = r := by rw [List.getD_eq_getElem?_getD, h]; rfl
  unfold Win.take
  rw [e]
  refine ⟨?_, o.setRow zero_row⟩
  rw [step_op (c := [[6, (i : Int)]]) rfl rfl]
  simp only [Sd05.spec]
  rw [if_pos (by
    show ((i : Int).toNat < 64)
    omega)]
  show (Sd05.setSlot w.flat i (List.replicate 64 0), 0 :: (Sd05.slot w.flat i ++ Sd05.bytes 8 (Sd05.check (Sd05.slot w.flat i))).map fun (x : UInt8) => (x.toNat : Int)) = _
  have ez : (List.replicate 64 0 : List UInt8) = oct (List.replicate 64 0) := by
    unfold oct Sd05Neutral.octets
    rw [List.map_replicate]
    rfl
  rw [o.slot h, bytes8, check_oct hr.2, ← oct_append, oct_back (hr.2.append (le8_byt _)), ez, o.setSlot hi List.length_replicate]
/-! ### bell -/
theorem st_bell {w : Win} (o : WOk w) {x : Int} (h0 : 0 ≤ x) (h1 : x < 18446744073709551616) : Sd05Neutral.step w.flat [[7, x]] = (Win.flat { w with bell := x }, [0]) ∧ WOk { w with bell := x } := by
  refine ⟨?_, o.setBell h0 h1⟩
  rw [step_op (c := [[7, x]]) rfl rfl]
  simp only [Sd05.spec]
  rw [o.ring]
  obtain ⟨a, rfl⟩ := Int.eq_ofNat_of_zero_le h0
  rfl
end WW
end
section
set_option linter.all false
namespace WW
/-! ### begin -/
def content (p b : List Int) : List Int := (p.zip b).foldl (fun (m : List Int) (x : Int × Int) => m.set x.1.toNat x.2) (List.replicate 4160 0)
def chunk (c : List Int) (k : Nat) : List Int := (c.drop (64 * k)).take 64
def Win.of (c : List Int) : Win := ⟨(List.range 64).map (chunk c), val ((c.drop 4096).take 8), val ((c.drop 4104).take 8), c.drop 4112⟩
theorem foldset_len : ∀ (q : List (Int × Int)) (m : List Int), (q.foldl (fun (m : List Int) (x : Int × Int) => m.set x.1.toNat x.2) m).length = m.length
  | [], _ => rfl
  | x :: q, m => by rw [List.foldl_cons, foldset_len q, List.length_set]
theorem foldset_byt : ∀ (q : List (Int × Int)) (m : List Int), (∀ x ∈ q, 0 ≤ x.2 ∧ x.2 ≤ 255) → Byt m → Byt (q.foldl (fun (m : List Int) (x : Int × Int) => m.set x.1.toNat x.2) m)
  | [], _, _, h => h
  | x :: q, m, hq, h => by
    rw [List.foldl_cons]
    refine foldset_byt q _ (fun y hy => hq y (List.mem_cons_of_mem _ hy)) fun y hy => ?_
    rcases List.mem_or_eq_of_mem_set hy with h1 | h1
    · exact h y h1
    · rw [h1]; exact hq x List.mem_cons_self
theorem foldset_oct : ∀ (p b : List Int) (m : List Int), oct ((p.zip b).foldl (fun (m : List Int) (x : Int × Int) => m.set x.1.toNat x.2) m) =
    ((Sd05Neutral.nats p).zip (oct b)).foldl (fun (m : List UInt8) (x : Nat × UInt8) => m.set x.1 x.2) (oct m)
  | [], _, m => by simp [Sd05Neutral.nats]
  | x :: p, [], m => by simp [Sd05Neutral.nats, Sd05Neutral.octets]
  | x :: p, y :: b, m => by
    show oct ((p.zip b).foldl (fun (m : List Int) (x : Int × Int) => m.set x.1.toNat x.2) (m.set x.toNat y)) =
      ((Sd05Neutral.nats p).zip (oct b)).foldl (fun (m : List UInt8) (x : Nat × UInt8) => m.set x.1 x.2) ((oct m).set x.toNat (UInt8.ofNat y.toNat))
    rw [foldset_oct p b]
    congr 1
    unfold oct Sd05Neutral.octets
    rw [List.map_set]
theorem content_len (p b : List Int) : (content p b).length = 4160 := by
  unfold content
  rw [foldset_len, List.length_replicate]
theorem content_byt {p b : List Int} (hb : Byt b) : Byt (content p b) :=
  foldset_byt _ _ (fun x hx => hb _ (List.of_mem_zip hx).2) (Byt.replicate _)
theorem chunks (c : List Int) : ∀ (n : Nat), 64 * n ≤ c.length → ((List.range n).map (chunk c)).flatten = c.take (64 * n)
  | 0, _ => by simp
  | n + 1, h => by
    rw [List.range_succ, List.map_append, List.flatten_append, chunks c n (by omega)]
    show c.take (64 * n) ++ (chunk c n ++ []) = c.take (64 * n + 64)
    rw [List.append_nil, List.take_add]
    rfl
theorem cut (c : List Int) (a n : Nat) : (c.drop a).take n ++ c.drop (a + n) = c.drop a := by
  rw [← List.drop_drop, List.take_append_drop]
theorem of_all {c : List Int} (hl : c.length = 4160) (hb : Byt c) : (Win.of c).all = c ∧ WOk (Win.of c) := by
  have l1 : ((c.drop 4096).take 8).length = 8 := by rw [List.length_take, List.length_drop]; omega
  have l2 : ((c.drop 4104).take 8).length = 8 := by rw [List.length_take, List.length_drop]; omega
  have b1 := (hb.drop 4096).take 8
  have b2 := (hb.drop 4104).take 8
  have v1 := val_bound b1
  have v2 := val_bound b2
  rw [l1] at v1
  rw [l2] at v2
  constructor
  · unfold Win.all Win.of
    show ((List.range 64).map (chunk c)).flatten ++ (le8 (val ((c.drop 4096).take 8)) ++ (le8 (val ((c.drop 4104).take 8)) ++ c.drop 4112)) = c
    rw [chunks c 64 (by omega), le8_val l1 b1, le8_val l2 b2, cut c 4104 8, cut c 4096 8, List.take_append_drop]
  · refine ⟨by show ((List.range 64).map (chunk c)).length = 64; rw [List.length_map, List.length_range], fun r hr => ?_, v1.1, v1.2, v2.1, v2.2, by show (c.drop 4112).length = 48; rw [List.length_drop]; omega, hb.drop _⟩
    obtain ⟨k, hk, rfl⟩ := List.mem_map.mp hr
    have := List.mem_range.mp hk
    exact ⟨by unfold chunk; rw [List.length_take, List.length_drop]; omega, (hb.drop _).take _⟩
theorem oct_zero (n : Nat) : oct (List.replicate n 0) = List.replicate n 0 := by
  unfold oct Sd05Neutral.octets
  rw [List.map_replicate]
  rfl
theorem st_begin {s : List UInt8} {p b : List Int} (hb : Byt b) : Sd05Neutral.step s [[0], p, b] = ((Win.of (content p b)).flat, [0]) ∧ WOk (Win.of (content p b)) := by
  obtain ⟨e, o⟩ := of_all (content_len p b) (content_byt (p := p) hb)
  refine ⟨?_, o⟩
  unfold Win.flat
  rw [e]
  show (((Sd05Neutral.nats p).zip (oct b)).foldl (fun (m : List UInt8) (x : Nat × UInt8) => m.set x.1 x.2) (List.replicate Sd05.SIZE 0), [(0 : Int)]) = _
  unfold content
  rw [foldset_oct, oct_zero]
  rfl
/-! ### told -/
def num (l : List Int) : Nat := (l.filter fun x => decide (x ≠ 0)).length
def tells : Nat → List Int → List Int
  | _, [] => []
  | k, x :: r => if x = 0 then tells (k + 1) r else (k : Int) :: x :: tells (k + 1) r
theorem tells_len : ∀ (l : List Int) (k : Nat), (tells k l).length = 2 * num l
  | [], _ => rfl
  | x :: r, k => by
    unfold tells num
    by_cases h : x = 0
    · rw [if_pos h, List.filter_cons, if_neg (by simp [h])]
      exact tells_len r (k + 1)
    · rw [if_neg h, List.filter_cons, if_pos (by simp [h]), List.length_cons, List.length_cons, List.length_cons, tells_len r (k + 1)]
      unfold num
      omega
theorem tells_cons (k : Nat) (x : Int) (r : List Int) : tells k (x :: r) = if x = 0 then tells (k + 1) r else (k : Int) :: x :: tells (k + 1) r := rfl
theorem tells_append : ∀ (a b : List Int) (k : Nat), tells k (a ++ b) = tells k a ++ tells (k + a.length) b
  | [], b, k => rfl
  | x :: a, b, k => by
    have e : k + (x :: a).length = k + 1 + a.length := by rw [List.length_cons]; omega
    rw [List.cons_append, tells_cons, tells_cons, e, tells_append a b (k + 1)]
    by_cases h : x = 0
    · rw [if_pos h, if_pos h]
    · rw [if_neg h, if_neg h]
      rfl
theorem num_append (a b : List Int) : num (a ++ b) = num a + num b := by
  unfold num
  rw [List.filter_append, List.length_append]
theorem held_oct : ∀ {l : List Int}, Byt l → ∀ (k : Nat), ((oct l).zipIdx k).filterMap (fun (x : UInt8 × Nat) => if x.1 = 0 then none else some (x.2, x.1.toNat)) =
    ((l.zipIdx k).filter fun (x : Int × Nat) => decide (x.1 ≠ 0)).map fun x => (x.2, x.1.toNat)
  | [], _, _ => rfl
  | a :: l, h, k => by
    have h1 := h a List.mem_cons_self
    have ih := held_oct (l := l) (h.sub fun _ hx => List.mem_cons_of_mem _ hx) (k + 1)
    have hz : (UInt8.ofNat a.toNat).toNat = a.toNat := by rw [UInt8.toNat_ofNat']; omega
    have e1 : (oct (a :: l)).zipIdx k = (UInt8.ofNat a.toNat, k) :: (oct l).zipIdx (k + 1) := rfl
    have e2 : (a :: l).zipIdx k = (a, k) :: l.zipIdx (k + 1) := rfl
    rw [e1, e2]
    by_cases hs : a = 0
    · subst hs
      rw [List.filterMap_cons_none (by rfl), List.filter_cons_of_neg (by simp)]
      exact ih
    · have hs' : ¬ UInt8.ofNat a.toNat = 0 := fun q => by
        have q2 := congrArg UInt8.toNat q
        rw [hz] at q2
        have : (0 : UInt8).toNat = 0 := rfl
        omega
      rw [List.filterMap_cons_some (b := (k, a.toNat)) (by simp only [if_neg hs', hz]), List.filter_cons_of_pos (by simp [hs]), ih]
      rfl
theorem told_ints : ∀ {l : List Int}, Byt l → ∀ (k : Nat), (((l.zipIdx k).filter fun (x : Int × Nat) => decide (x.1 ≠ 0)).map fun x => (x.2, x.1.toNat)).length = num l ∧
    Sd05Neutral.ints ((((l.zipIdx k).filter fun (x : Int × Nat) => decide (x.1 ≠ 0)).map fun x => (x.2, x.1.toNat)).flatMap fun (x : Nat × Nat) => [x.1, x.2]) = tells k l
  | [], _, _ => ⟨rfl, rfl⟩
  | a :: l, h, k => by
    have h1 := h a List.mem_cons_self
    obtain ⟨i1, i2⟩ := told_ints (l := l) (h.sub fun _ hx => List.mem_cons_of_mem _ hx) (k + 1)
    have e : (a :: l).zipIdx k = (a, k) :: l.zipIdx (k + 1) := rfl
    rw [e]
    unfold tells num
    by_cases hs : a = 0
    · rw [List.filter_cons, if_neg (by simp [hs]), if_pos hs, List.filter_cons, if_neg (by simp [hs])]
      exact ⟨i1, i2⟩
    · rw [List.filter_cons, if_pos (by simp [hs]), if_neg hs, List.filter_cons, if_pos (by simp [hs]), List.map_cons, List.length_cons, i1, List.flatMap_cons]
      refine ⟨rfl, ?_⟩
      rw [← i2]
      show (k : Int) :: ((a.toNat : Nat) : Int) :: Sd05Neutral.ints _ = _
      rw [Int.toNat_of_nonneg h1.1]
      rfl
theorem st_told {w : Win} (o : WOk w) : Sd05Neutral.step w.flat [[8]] = (w.flat, (num w.all : Int) :: tells 0 w.all) := by
  have e : Sd05Neutral.held w.flat = (((w.all.zipIdx 0).filter fun (x : Int × Nat) => decide (x.1 ≠ 0)).map fun x => (x.2, x.1.toNat)) := held_oct o.byt 0
  obtain ⟨i1, i2⟩ := told_ints o.byt 0
  show (w.flat, ((Sd05Neutral.held w.flat).length : Int) :: Sd05Neutral.ints ((Sd05Neutral.held w.flat).flatMap fun (x : Nat × Nat) => [x.1, x.2])) = _
  rw [e, i1, i2]
end WW
end
section
set_option linter.all false
namespace WW
/-! ### what a call may be -/
inductive CallOk : List (List Int) → Prop
  | begin_ (p b : List Int) (hp : ∀ z ∈ p, 0 ≤ z ∧ z < 4160) (hl : p.length = b.length) (hn : p.length ≤ 4160) (hb : Byt b) : CallOk [[0], p, b]
  | send (i : Int) (m : List Int) (h0 : 0 ≤ i) (hm : Row m) : CallOk [[1, i], m]
  | patch (i off : Int) (m : List Int) (h0 : 0 ≤ i) (h1 : 0 ≤ off) (hm : Byt m) (hl : m.length ≤ 64) : CallOk [[2, i, off], m]
  | fill (i n x st : Int) (h0 : 0 ≤ i) (hx : 0 ≤ x) (hx1 : x < 18446744073709551616) (hs : 0 ≤ st) (hs1 : st < 18446744073709551616) : CallOk [[3, i, n, x, st]]
  | move (i j n : Int) (h0 : 0 ≤ i) (h1 : 0 ≤ j) : CallOk [[4, i, j, n]]
  | swap (i j : Int) (h0 : 0 ≤ i) (h1 : 0 ≤ j) : CallOk [[5, i, j]]
  | take (i : Int) (h0 : 0 ≤ i) : CallOk [[6, i]]
  | bell (x : Int) (h0 : 0 ≤ x) (h1 : x < 18446744073709551616) : CallOk [[7, x]]
  | told : CallOk [[8]]
theorem natural_iff {z : Int} {n : Nat} (h : Sd05Neutral.natural z n = true) : 0 ≤ z ∧ z < 2 ^ n := by
  unfold Sd05Neutral.natural at h
  rw [Bool.and_eq_true] at h
  exact ⟨of_decide_eq_true h.1, of_decide_eq_true h.2⟩
theorem byt_of {l : List Int} (h : l.all (fun (z : Int) => Sd05Neutral.natural z 8) = true) : Byt l := fun x hx => by
  have := natural_iff (List.all_eq_true.mp h x hx)
  omega
theorem long_iff {l : List Int} {n lo hi : Int} (h : Sd05Neutral.long l n lo hi = true) : (l.length : Int) = if lo ≤ n ∧ n ≤ hi then n else 0 := of_decide_eq_true h
theorem shape_inv {p : Int} {n k : Nat} (h : PySd05.shape p = some (n, k)) :
    (p = 0 ∧ n = 0 ∧ k = 2) ∨ (p = 1 ∧ n = 1 ∧ k = 1) ∨ (p = 2 ∧ n = 2 ∧ k = 1) ∨ (p = 3 ∧ n = 4 ∧ k = 0) ∨ (p = 4 ∧ n = 3 ∧ k = 0) ∨ (p = 5 ∧ n = 2 ∧ k = 0) ∨ (p = 6 ∧ n = 1 ∧ k = 0) ∨ (p = 7 ∧ n = 1 ∧ k = 0) ∨ (p = 8 ∧ n = 0 ∧ k = 0) := by
  unfold PySd05.shape at h
  by_cases h0 : p = 0
  · rw [if_pos h0] at h
    cases h
    exact .inl ⟨h0, rfl, rfl⟩
  rw [if_neg h0] at h
  clear h0
  by_cases h0 : p = 1
  · rw [if_pos h0] at h
    cases h
    exact .inr (.inl ⟨h0, rfl, rfl⟩)
  rw [if_neg h0] at h
  clear h0
  by_cases h0 : p = 2
  · rw [if_pos h0] at h
    cases h
    exact .inr (.inr (.inl ⟨h0, rfl, rfl⟩))
  rw [if_neg h0] at h
  clear h0
  by_cases h0 : p = 3
  · rw [if_pos h0] at h
    cases h
    exact .inr (.inr (.inr (.inl ⟨h0, rfl, rfl⟩)))
  rw [if_neg h0] at h
  clear h0
  by_cases h0 : p = 4
  · rw [if_pos h0] at h
    cases h
    exact .inr (.inr (.inr (.inr (.inl ⟨h0, rfl, rfl⟩))))
  rw [if_neg h0] at h
  clear h0
  by_cases h0 : p = 5
  · rw [if_pos h0] at h
    cases h
    exact .inr (.inr (.inr (.inr (.inr (.inl ⟨h0, rfl, rfl⟩)))))
  rw [if_neg h0] at h
  clear h0
  by_cases h0 : p = 6
  · rw [if_pos h0] at h
    cases h
    exact .inr (.inr (.inr (.inr (.inr (.inr (.inl ⟨h0, rfl, rfl⟩))))))
  rw [if_neg h0] at h
  clear h0
  by_cases h0 : p = 7
  · rw [if_pos h0] at h
    cases h
    exact .inr (.inr (.inr (.inr (.inr (.inr (.inr (.inl ⟨h0, rfl, rfl⟩)))))))
  rw [if_neg h0] at h
  clear h0
  by_cases h0 : p = 8
  · rw [if_pos h0] at h
    cases h
    exact .inr (.inr (.inr (.inr (.inr (.inr (.inr (.inr (⟨h0, rfl, rfl⟩))))))))
  rw [if_neg h0] at h
  clear h0
  cases h
theorem callOk {c : List (List Int)} (h : PyFlat.okCall PySd05.shape c) (ha : Sd05Neutral.asked1 (PySd05.whole c) = true) : CallOk c := by
  obtain ⟨p, a, xs, rfl, hs⟩ := h
  rcases shape_inv hs with ⟨rfl, h1, h2⟩ | ⟨rfl, h1, h2⟩ | ⟨rfl, h1, h2⟩ | ⟨rfl, h1, h2⟩ | ⟨rfl, h1, h2⟩ | ⟨rfl, h1, h2⟩ | ⟨rfl, h1, h2⟩ | ⟨rfl, h1, h2⟩ | ⟨rfl, h1, h2⟩
  · match a, h1, xs, h2, ha with
    | [], _, [x, y], _, ha =>
      have q : (((x.all fun (z : Int) => decide (0 ≤ z) && decide (z < 4160)) && decide (x.length ≤ 4160)) && ((y.all fun (z : Int) => Sd05Neutral.natural z 8) && Sd05Neutral.long y x.length 0 4160)) = true := ha
      rw [Bool.and_eq_true, Bool.and_eq_true, Bool.and_eq_true] at q
      obtain ⟨⟨q1, q2⟩, q3, q4⟩ := q
      have q2 := of_decide_eq_true q2
      have q4 := long_iff q4
      rw [if_pos (by omega)] at q4
      exact .begin_ x y (fun z hz => by
        have := List.all_eq_true.mp q1 z hz
        rw [Bool.and_eq_true] at this
        exact ⟨of_decide_eq_true this.1, of_decide_eq_true this.2⟩) (by omega) q2 (byt_of q3)
  · match a, h1, xs, h2, ha with
    | [i], _, [m], _, ha =>
      have q : (Sd05Neutral.natural i 32 && ((m.all fun (z : Int) => Sd05Neutral.natural z 8) && Sd05Neutral.long m 64 64 64)) = true := ha
      rw [Bool.and_eq_true, Bool.and_eq_true] at q
      obtain ⟨q1, q2, q3⟩ := q
      have q3 := long_iff q3
      rw [if_pos (by omega)] at q3
      exact .send i m (natural_iff q1).1 ⟨by omega, byt_of q2⟩
  · match a, h1, xs, h2, ha with
    | [i, off], _, [m], _, ha =>
      have q : (Sd05Neutral.natural i 32 && (Sd05Neutral.natural off 32 && (Sd05Neutral.whole32 (m.length : Int) && ((m.all fun (z : Int) => Sd05Neutral.natural z 8) && Sd05Neutral.long m (m.length : Int) 0 64)))) = true := ha
      rw [Bool.and_eq_true, Bool.and_eq_true, Bool.and_eq_true, Bool.and_eq_true] at q
      obtain ⟨q1, q2, _, q3, q4⟩ := q
      have q4 := long_iff q4
      refine .patch i off m (natural_iff q1).1 (natural_iff q2).1 (byt_of q3) ?_
      split at q4 <;> omega
  · match a, h1, xs, h2, ha with
    | [i, n, x, st], _, [], _, ha =>
      have q : (Sd05Neutral.natural i 32 && (Sd05Neutral.whole32 n && (Sd05Neutral.natural x 64 && Sd05Neutral.natural st 64))) = true := ha
      rw [Bool.and_eq_true, Bool.and_eq_true, Bool.and_eq_true] at q
      obtain ⟨q1, _, q3, q4⟩ := q
      exact .fill i n x st (natural_iff q1).1 (natural_iff q3).1 (natural_iff q3).2 (natural_iff q4).1 (natural_iff q4).2
  · match a, h1, xs, h2, ha with
    | [i, j, n], _, [], _, ha =>
      have q : (Sd05Neutral.natural i 32 && (Sd05Neutral.natural j 32 && Sd05Neutral.whole32 n)) = true := ha
      rw [Bool.and_eq_true, Bool.and_eq_true] at q
      exact .move i j n (natural_iff q.1).1 (natural_iff q.2.1).1
  · match a, h1, xs, h2, ha with
    | [i, j], _, [], _, ha =>
      have q : (Sd05Neutral.natural i 32 && Sd05Neutral.natural j 32) = true := ha
      rw [Bool.and_eq_true] at q
      exact .swap i j (natural_iff q.1).1 (natural_iff q.2).1
  · match a, h1, xs, h2, ha with
    | [i], _, [], _, ha => exact .take i (natural_iff (show Sd05Neutral.natural i 32 = true from ha)).1
  · match a, h1, xs, h2, ha with
    | [x], _, [], _, ha =>
      have q := natural_iff (show Sd05Neutral.natural x 64 = true from ha)
      exact .bell x q.1 q.2
  · match a, h1, xs, h2, ha with
    | [], _, [], _, ha => exact .told
/-! ### a line, call by call -/
def rest (w : Win) (cs : List (List (List Int))) : List Int := PyFlat.told (PyFlat.played Sd05Neutral.step w.flat (cs.map PySd05.whole))
theorem rest_nil (w : Win) : rest w [] = [] := rfl
theorem rest_cons {w w' : Win} {c : List (List Int)} {a : List Int} (h : Sd05Neutral.step w.flat (PySd05.whole c) = (w'.flat, a)) (cs : List (List (List Int))) : rest w (c :: cs) = (a.length : Int) :: (a ++ rest w' cs) := by
  show ((Sd05Neutral.step w.flat (PySd05.whole c)).2.length : Int) :: ((Sd05Neutral.step w.flat (PySd05.whole c)).2 ++ PyFlat.told (PyFlat.played Sd05Neutral.step (Sd05Neutral.step w.flat (PySd05.whole c)).1 (cs.map PySd05.whole))) = _
  rw [h]
  rfl
theorem told_length : ∀ (cs : List (List (List Int))) (s : List UInt8), (PyFlat.told (PyFlat.played Sd05Neutral.step s cs)).length = Sd05Neutral.total s cs + cs.length
  | [], _ => rfl
  | c :: cs, s => by
    show (((Sd05Neutral.step s c).2.length : Int) :: ((Sd05Neutral.step s c).2 ++ PyFlat.told (PyFlat.played Sd05Neutral.step (Sd05Neutral.step s c).1 cs))).length = (Sd05Neutral.step s c).2.length + Sd05Neutral.total (Sd05Neutral.step s c).1 cs + (cs.length + 1)
    rw [List.length_cons, List.length_append, told_length cs]
    omega
def win0 : Win := ⟨List.replicate 64 (List.replicate 64 0), 0, 0, List.replicate 48 0⟩
theorem win0_ok : WOk win0 := ⟨List.length_replicate, fun r hr => by rw [(List.mem_replicate.mp hr).2]; exact zero_row, by decide, by decide, by decide, by decide, List.length_replicate, Byt.replicate 48⟩
theorem win0_flat : win0.flat = Sd05Neutral.start := by
  have e : win0.all = List.replicate 4160 0 := by
    show (List.replicate 64 (List.replicate 64 (0 : Int))).flatten ++ (le8 0 ++ (le8 0 ++ List.replicate 48 0)) = _
    rw [List.flatten_replicate_replicate, show le8 0 = List.replicate 8 0 by decide, List.replicate_append_replicate, List.replicate_append_replicate, List.replicate_append_replicate]
  unfold Win.flat
  rw [e, oct_zero]
  rfl
/-- the request, read -/
theorem asked_inv {ns : List Int} (h : PySd05.answers_asked ns = true) : ∃ cs, ns = PyFlat.put cs ∧ (∀ c ∈ cs, CallOk c) ∧ PySd05.answers ns = rest win0 cs ∧ (rest win0 cs).length ≤ 1002000 := by
  unfold PySd05.answers_asked at h
  unfold PySd05.answers
  cases e : PySd05.calls ns with
  | none => rw [e] at h; cases h
  | some ds =>
    rw [e] at h
    unfold PySd05.calls at e
    cases e1 : PyFlat.calls PySd05.shape ns.length ns with
    | none => rw [e1] at e; cases e
    | some cs =>
      rw [e1] at e
      have e := Option.some.inj e
      subst e
      obtain ⟨p1, p2⟩ := PyFlat.put_calls _ _ _ e1
      have h : (PyFlat.atMost 2000 (cs.map PySd05.whole) && Sd05Neutral.asked (cs.map PySd05.whole)) = true := h
      rw [Bool.and_eq_true] at h
      unfold PyFlat.atMost Sd05Neutral.asked at h
      rw [Bool.and_eq_true, Bool.and_eq_true] at h
      obtain ⟨h1, ⟨h2, h3⟩, _⟩ := h
      have h1 := of_decide_eq_true h1
      have h3 := of_decide_eq_true h3
      rw [← win0_flat] at h3
      refine ⟨cs, p1, fun c hc => callOk (p2 c hc) (List.all_eq_true.mp h2 _ (List.mem_map.mpr ⟨c, hc, rfl⟩)), ?_, ?_⟩
      · unfold rest
        rw [win0_flat]
      · unfold rest
        rw [told_length]
        rw [List.length_map] at h1 ⊢
        omega
end WW
end
section
set_option linter.all false
namespace WW
theorem setRows_eq : ∀ (ms rows : List (List Int)) (i : Nat), i + ms.length ≤ rows.length → setRows rows i ms = rows.take i ++ (ms ++ rows.drop (i + ms.length))
  | [], rows, i, _ => by
    show rows = _
    simp
  | m :: ms, rows, i, h => by
    have h' : i + (ms.length + 1) ≤ rows.length := h
    show setRows (rows.set i m) (i + 1) ms = _
    rw [setRows_eq ms (rows.set i m) (i + 1) (by rw [List.length_set]; omega)]
    have e1 : (rows.set i m).take (i + 1) = rows.take i ++ [m] := by
      rw [List.take_add_one, List.getElem?_set_self (by omega), List.take_set_of_le (Nat.le_refl _)]
      rfl
    have e2 : (rows.set i m).drop (i + 1 + ms.length) = rows.drop (i + (m :: ms).length) := by
      rw [List.drop_set_of_lt (by omega)]
      congr 1
      rw [List.length_cons]
      omega
    rw [e1, e2, List.append_assoc]
    rfl
theorem setRows_all {ms rows : List (List Int)} (h : ms.length = rows.length) : setRows rows 0 ms = ms := by
  rw [setRows_eq ms rows 0 (by omega), List.take_zero, Nat.zero_add, h, List.drop_length, List.append_nil]
  rfl
end WW
end
section
set_option linter.all false
namespace WW
/-! ### the check, word by word -/
def chkTo (r : List Int) (n : Nat) : Int := (List.range n).foldl (fun a k => ((a * 2 + a / 9223372036854775808) % 18446744073709551616 + val ((r.drop (8 * k)).take 8)) % 18446744073709551616) 0
theorem chkTo_succ (r : List Int) (n : Nat) : chkTo r (n + 1) = ((chkTo r n * 2 + chkTo r n / 9223372036854775808) % 18446744073709551616 + val ((r.drop (8 * n)).take 8)) % 18446744073709551616 := by
  unfold chkTo
  rw [List.range_succ, List.foldl_append]
  rfl
theorem chkTo_bound (r : List Int) : ∀ n : Nat, 0 ≤ chkTo r n ∧ chkTo r n < 18446744073709551616
  | 0 => ⟨Int.le_refl 0, by show (0 : Int) < 18446744073709551616; decide⟩
  | n + 1 => by
    rw [chkTo_succ]
    omega
theorem chkTo_all (r : List Int) : chkTo r 8 = chk r := rfl
theorem turn_eq {a : Int} (h0 : 0 ≤ a) (h1 : a < 18446744073709551616) : a * 2 % 18446744073709551616 + a / 9223372036854775808 = (a * 2 + a / 9223372036854775808) % 18446744073709551616 := by
  omega
theorem chk_bound (r : List Int) : 0 ≤ chk r ∧ chk r < 18446744073709551616 := by
  rw [← chkTo_all]
  exact chkTo_bound r 8
/-! ### told, byte by byte -/
theorem tells_take {l : List Int} {i : Nat} {x : Int} (h : l[i]? = some x) : tells 0 (l.take (i + 1)) = tells 0 (l.take i) ++ (if x = 0 then [] else [(i : Int), x]) := by
  have hi := (List.getElem?_eq_some_iff.mp h).1
  rw [List.take_add_one, h, Option.toList_some, tells_append, List.length_take, Nat.min_eq_left (Nat.le_of_lt hi), Nat.zero_add, tells_cons]
  rfl
theorem num_le (l : List Int) : num l ≤ l.length := List.length_filter_le _ _
theorem tells_half (l : List Int) : ((tells 0 l).length : Int) / 2 = (num l : Int) := by
  rw [tells_len]
  omega
end WW
end
section
set_option Elab.async false
set_option linter.all false
set_option maxRecDepth 100000
set_option maxHeartbeats 2000000
namespace L2
open PySem PySem.Spec PyProof.Rows
section
variable {X : Cx}
/-- a module's whole number -/
theorem pgl {x : Str} {z : Int} {pos : Pos} (h : ∃ t, X.mg x = some (.int z t)) (hg : Gl X x := by rfl) (hd : (x == ("__debug__" : Str)) = false := by decide) : PE X (.Name x pos) (tC (.int z)) := by
  obtain ⟨t, e⟩ := h
  exact pe_glob hg e ⟨t, rfl⟩ hd
end
/-- a comprehension without a test -/
theorem tyes {σ : St} {H : Hp} {A B : Hp → Prop} (h : A H) : tYes σ H fun b H3 => if b = true then A H3 else B H3 := by
  show if true = true then A H else B H
  rw [if_pos rfl]
  exact h
/-! ### heaps -/
theorem Same.laid {H H' : Hp} {l : Addr} {o : HO} (s : Same H H') (h : H' l = Option.none) : Same H (upd H' l o) := fun b u e => by
  rw [upd_ne (ne_of_none (s b u e) h)]
  exact s b u e
theorem Same.own {H H' : Hp} {l : Addr} {o : HO} (s : Same H H') (h : H l = Option.none) : Same H (upd H' l o) := fun b u e => by
  rw [upd_ne (ne_of_none e h)]
  exact s b u e
/-! ### for over reversed(list) -/
theorem for_rev {K : PySem.W.Frag} {a : Addr} {xs : List V} {g : TG} {tb : TS} {D : Ends} {σ : St} {H : Hp} (Pv : Nat → St → Hp → Prop) (h0 : Pv 0 σ H) (hl : ∀ i σ H, i ≤ xs.length → Pv i σ H → SqL K H a xs)
    (hs : ∀ i x σ H, i < xs.length → xs[xs.length - 1 - i]? = some x → Pv i σ H → g x σ H fun σ2 H2 => tb { D with nx := Pv (i + 1), ct := Pv (i + 1), bk := D.nx } σ2 H2) (hd : ∀ σ H, Pv xs.length σ H → D.nx σ H) :
    ∃ W : Nat → Nat → St → Hp → Prop, (∃ m, W 0 m σ H) ∧ ∀ i m σ H, W i m σ H →
      ((Itv K a xs.length).stop i H ∧ D.nx σ H) ∨ ((Itv K a xs.length).go i H ∧ ∃ N : St → Hp → Prop, (∀ σ' H', N σ' H' → ∃ m', m' < m ∧ W (i + 1) m' σ' H') ∧ ∀ x H', (Itv K a xs.length).yld i H x H' → g x σ H' fun σ2 H2 => tb { D with nx := N, ct := N, bk := D.nx } σ2 H2) := by
  refine ⟨fun i m σ H => m = xs.length - i ∧ i ≤ xs.length ∧ Pv i σ H, ⟨xs.length, by simp, Nat.zero_le _, h0⟩, ?_⟩
  rintro i m σ H ⟨rfl, hi, p⟩
  have q := hl i σ H hi p
  by_cases hlt : i < xs.length
  · have hx : xs[xs.length - 1 - i]? = some (xs[xs.length - 1 - i]'(by omega)) := List.getElem?_eq_getElem (by omega)
    refine .inr ⟨⟨hlt, xs, _, q, hx⟩, Pv (i + 1), fun σ' H' p' => ⟨xs.length - (i + 1), by omega, rfl, hlt, p'⟩, fun x H' y => ?_⟩
    obtain ⟨e, y⟩ := y
    subst e
    exact hs i x σ _ hlt (y xs q) p
  · have e : i = xs.length := by omega
    subst e
    exact .inl ⟨Nat.le_refl _, hd σ H p⟩
/-! ### a tuple times an int -/
theorem tm_fills : fillsNumberSlot (.type "tuple") "mul" = pure false :=
  PySem.fillsNumberSlot_seq (id := "tuple.__mul__") (r := some (.builtin "tuple.__rmul__")) F.slot_tuple_mul.lookup (by decide +kernel) F.slot_tuple_rmul.lookup (by decide +kernel)
theorem tm_repeat : seqRepeat? (.type "tuple") = pure (some (.builtin "tuple.__mul__")) := by
  unfold seqRepeat?
  rw [PySem.seqSlot_of (T := "tuple") (name := "__mul__") (id := "tuple.__mul__") F.slot_tuple_mul.lookup (by decide +kernel), PySem.seqSlot_of (T := "tuple") (name := "__rmul__") (id := "tuple.__rmul__") F.slot_tuple_rmul.lookup (by decide +kernel)]
  rfl
theorem tm_declines (a : Int) (t : Tok) (l : Addr) (items : Array Value) (n : Nat) (dd : Option Addr) (sl : Array (Option Value)) :
    Meets (Builtin.«int.__rmul__» ⟨[.int a t, .ref l], []⟩) (fun _ R s => s.heap.get? l = some { cls := .type "tuple", dict := dd, data := .seq items n, slots := sl } ∧ R (.ok (.ret Value.notImplemented)) s) :=
  .of_wp fun prog w A R s h => by
    obtain ⟨hp, g, d, tk, os⟩ := s
    obtain ⟨hl, h⟩ := h
    wp_walk
    exact ⟨_, rfl, h⟩
theorem tm_times (l : Addr) (items : Array Value) (n : Nat) (x : Int) (u : Tok) (dd : Option Addr) (sl : Array (Option Value)) (h0 : ¬ items.isEmpty = true) (h1 : 1 < x) (h2 : x < 2 ^ 63) (hz : items.size * x.toNat ≤ sizeLine)
    (hj : (List.foldl (fun x1 x2 => x1 ++ x2) #[] (List.replicate x.toNat items)).size ≤ sizeLine) :
    Meets (Builtin.«tuple.__mul__» ⟨[.ref l, .int x u], []⟩) (fun _ R s => s.heap.get? l = some { cls := .type "tuple", dict := dd, data := .seq items n, slots := sl } ∧
      R (.ok (.ret (Value.ref s.heap.objs.size))) { s with heap := s.heap.push { cls := Value.type "tuple", data := Data.seq (List.foldl (fun x1 x2 => x1 ++ x2) #[] (List.replicate x.toNat items)) } }) :=
  .of_wp fun prog w A R s h => by
    obtain ⟨hp, g, d, tk, os⟩ := s
    obtain ⟨hl, h⟩ := h
    have f1 := AutoSeq1.idx_int
    have hs : sizeLine = 16777216 := sizeLine_eq
    have hc : (items.size : Int) * x ≤ 16777216 := by
      obtain ⟨y, rfl⟩ := Int.eq_ofNat_of_zero_le (Int.le_of_lt (Int.lt_trans (by decide : (0 : Int) < 1) h1))
      rw [Int.toNat_natCast] at hz
      have : ((items.size * y : Nat) : Int) ≤ 16777216 := by omega
      simpa using this
    have c0 : ¬ (decide (x < -2 ^ 63) || decide (x ≥ 2 ^ 63)) = true := by simp; omega
    have c1 : ¬ (items.isEmpty || x == 1) = true := by
      intro q
      rw [Bool.or_eq_true] at q
      rcases q with q | q
      · exact h0 q
      · have := eq_of_beq q
        omega
    have c2 : ¬ (decide (x ≤ 0) || items.isEmpty) = true := by
      intro q
      rw [Bool.or_eq_true] at q
      rcases q with q | q
      · have := of_decide_eq_true q
        omega
      · exact h0 q
    have c3 : ¬ (items.size : Int) * x > (2 ^ 63 - 1) / 8 := by omega
    have c4 : ¬ Builtin.Tuple.tupleTooMany ((items.size : Int) * x) = true := by
      unfold Builtin.Tuple.tupleTooMany
      intro q
      have := of_decide_eq_true q
      omega
    wp_walk using wpAny_loadPart' hl
    refine wpAny_ite_false (decide_eq_false c0) ?_
    wp_walk using wpAny_loadPart' hl
    try refine wpAny_ite_false (decide_eq_false c1) ?_
    wp_walk using wpAny_loadPart' hl
    try refine wpAny_ite_false (decide_eq_false c2) ?_
    wp_walk using wpAny_loadPart' hl
    try (rw [if_neg c3])
    wp_walk using wpAny_loadPart' hl
    try refine wpAny_ite_false (decide_eq_false c4) ?_
    wp_walk using wpAny_loadPart' hl
    try refine wpAny_ite_false (decide_eq_false (Nat.not_lt.mpr hj)) ?_
    wp_walk using wpAny_loadPart' hl
    exact ⟨_, rfl, h⟩
/-! ### a slice of a tuple, the whole too -/
section
variable {prog : Program} {w : World} {A : Around} {E : Value → Shared → Prop} {s : Shared}
theorem tup_whole {t sl : Addr} {items : Array Value} {vl vu : Value} {lo hi : Option Int} {Q : Value → Shared → Prop} (ht : IsTup s.heap t items) (hs : s.heap.IsSliceOf sl vl vu .none) (pl : IsPart vl lo) (pu : IsPart vu hi)
    (hw : HT.sIx items.size 0 lo = 0 ∧ HT.sIx items.size items.size hi = items.size) (h : Q (.ref t) s) : wpAny (model prog w) A (getItem (.ref t) (.ref sl)) Q E s := by
  obtain ⟨os, hos, hcs, hds⟩ := id hs
  have hTs : s.TypeIs (.ref sl) "slice" := ⟨os, hos, hcs⟩
  unfold getItem
  try with_reducible refine wpAny_holding ?_
  first | refine wpAny_bind (wpAny_pure ?_) | skip
  refine wpAny_bind (wpAny_sequenceKey ht.typeIs (by decide) ?_)
  refine wpAny_bind (wpAny_callSpecial?_slot (name := Str.ofString "__getitem__") ht.typeIs PyProof.Rows.slot_tuple_getitem
    (wpAny_call_entry PyProof.Rows.slot_tuple_getitem ht.typeIs entry_tuple_getitem ?_ (args_tuple_getitem _ _)))
  show wpAny _ _ (Builtin.Tuple.tupleItemsOf (.ref t) >>= _) _ _ s
  refine wpAny_bind (tupleItemsOf_ ht ?_)
  refine wpAny_bind (wpAny_typeOf hTs ?_)
  rw [if_pos (by decide)]
  refine wpAny_bind (HT.sliceApplied_gen hs pl pu ?_)
  have yes : (((HT.sIx items.size 0 lo : Nat) : Int) == 0 && (1 : Int) == 1 && (HT.sIx items.size items.size hi - HT.sIx items.size 0 lo) == items.size) = true := by
    rw [hw.1, hw.2]
    simp
  show wpAny _ _ (if (((HT.sIx items.size 0 lo : Nat) : Int) == 0 && (1 : Int) == 1 && (HT.sIx items.size items.size hi - HT.sIx items.size 0 lo) == items.size) = true then _ else _) _ _ s
  rw [if_pos yes]
  refine wpAny_bind ?_
  unfold Builtin.Tuple.tupleIsExact
  refine wpAny_bind (wpAny_typeOf ht.typeIs (wpAny_pure ?_))
  rw [if_pos (by decide)]
  exact wpAny_bind (wpAny_rule (wpAny_pure ⟨_, rfl, wpAny_pure h⟩))
end
section
variable {X : Cx}
def rSlTA : V → Option Int → Option Int → Hp → VK → Prop := fun x lo hi H Q => ∃ (a : Addr) (xs : List V), x = .ref a ∧ H a = some (.tup xs) ∧ ∀ (p : Addr) (H' : Hp), Same H H' → H' p = some (.tup (cutV xs lo hi)) → Q (.ref p) H'
theorem cutV_all {xs : List V} {lo hi : Option Int} (h : HT.sIx xs.length 0 lo = 0 ∧ HT.sIx xs.length xs.length hi = xs.length) : cutV xs lo hi = xs := by
  unfold cutV
  rw [h.1, h.2, List.drop_zero, Nat.sub_zero, List.take_length]
theorem sl_tupA : SlR X rSlTA := by
  intro pins s σ H x v vl vu lo hi sl Q I rx hs pl pu h
  obtain ⟨a, xs, rfl, hx, q⟩ := h
  by_cases hw : HT.sIx xs.length 0 lo = 0 ∧ HT.sIx xs.length xs.length hi = xs.length
  · cases rx
    obtain ⟨its, r, ht, hz⟩ := I.tuple (SqT.of hx)
    have hlen : its.toArray.size = xs.length := by rw [List.size_toArray]; exact r.length.symm
    refine ⟨"tuple", _, PyProof.Rows.slot_tuple_getitem.lookup, ht.typeIs, tup_whole ht hs pl pu (by rw [hlen]; exact hw) ?_⟩
    exact ⟨.ref a, H, I, rfl, q a H (Same.refl H) (by rw [cutV_all hw]; exact hx)⟩
  · exact sl_tup pins s σ H (.ref a) v vl vu lo hi sl Q I rx hs pl pu ⟨a, xs, rfl, SqT.of hx, hw, fun p hp => q p _ ((Same.refl H).laid hp) upd_same⟩
/-! ### t + u, whatever they hold -/
def rCatTA : R2 := fun x y H Q => ∃ (a b : Addr) (xs ys : List V), x = .ref a ∧ y = .ref b ∧ H a = some (.tup xs) ∧ H b = some (.tup ys) ∧ xs.length + ys.length ≤ sizeLine ∧
  ∀ (p : Addr) (H' : Hp), Same H H' → H' p = some (.tup (xs ++ ys)) → Q (.ref p) H'
theorem op_catTA : OpR X (binaryOp .Add) rCatTA := by
  intro pins s σ H x y v u Q I rx ry h
  obtain ⟨a, b, xs, ys, rfl, rfl, ha, hb, hz, q⟩ := h
  by_cases hx : xs = []
  · subst hx
    cases rx
    cases ry
    obtain ⟨its, r1, p1, _⟩ := I.tuple (SqT.of ha)
    obtain ⟨its2, r2, p2, _⟩ := I.tuple (SqT.of hb)
    cases r1
    obtain ⟨⟨cls, dd, data, sl⟩, ho, hc, n, hd⟩ := id p1
    obtain ⟨⟨cls2, dd2, data2, sl2⟩, ho2, hc2, n2, hd2⟩ := id p2
    simp only at hc hd hc2 hd2
    subst hc hd hc2 hd2
    exact concat_meets ⟨_, ho, rfl⟩ ⟨_, ho2, rfl⟩ noFill_tuple_add seq_tuple_add PySem.F.slot_tuple_add PySem.F.entry_tuple_add (PySem.F.args_tuple_add_2 _ _)
      (tuple_addW0 a b [].toArray its2.toArray n n2 dd dd2 sl sl2 (by simp)) ⟨ho, ho2, ⟨.ref b, H, I, rfl, q b H (Same.refl H) hb⟩⟩
  · exact op_catT pins s σ H (.ref a) (.ref b) v u Q I rx ry ⟨a, b, xs, ys, rfl, rfl, SqT.of ha, SqT.of hb, hx, hz, fun e => q a H (Same.refl H) (by rw [e, List.append_nil]; exact ha), fun _ p hp => q p _ ((Same.refl H).laid hp) upd_same⟩
/-! ### t * n -/
def rRepT : R2 := fun x y H Q => ∃ (a : Addr) (k : Int) (xs : List V), x = .ref a ∧ y = .int k ∧ H a = some (.tup xs) ∧ xs ≠ [] ∧ 1 < k ∧ k < 2 ^ 63 ∧ xs.length * k.toNat ≤ sizeLine ∧
  ∀ p, H p = none → Q (.ref p) (upd H p (.tup (List.replicate k.toNat xs).flatten))
theorem op_repT : OpR X (binaryOp .Mult) rRepT := by
  intro pins s σ H x y v u Q I rx ry h
  obtain ⟨a, k, xs, rfl, rfl, ha, hx, h1, h2, hz, q⟩ := h
  cases rx
  obtain ⟨t, rfl⟩ := ry
  obtain ⟨its, r, p1, _⟩ := I.tuple (SqT.of ha)
  obtain ⟨⟨cls, dd, data, sl⟩, ho, hc, n, hd⟩ := id p1
  simp only at hc hd
  subst hc hd
  have hl := r.length
  have hne : ¬ its.toArray.isEmpty = true := by
    intro z
    apply hx
    have : its = [] := by simpa using z
    rw [this] at hl
    exact List.eq_nil_of_length_eq_zero hl
  have hnew : List.foldl (fun x1 x2 => x1 ++ x2) #[] (List.replicate k.toNat its.toArray) = (List.replicate k.toNat its).flatten.toArray := by
    have := foldl_rep its k.toNat []
    rw [List.nil_append] at this
    exact this
  have hsz : (List.replicate k.toNat its).flatten.toArray.size ≤ sizeLine := by
    rw [List.size_toArray, len_rep, Nat.mul_comm, ← hl]
    exact hz
  refine wpAny_binaryOp_repeat_ref (T := "tuple") (U := "int") (by decide) ⟨_, ho, rfl⟩ (fun s' => typeIs_int s' k t) tm_fills F.fills_int_mul F.slot_int_rmul tm_repeat F.slot_int_index.lookup
    (call_meets F.slot_int_rmul (typeIs_int s k t) F.entry_int_rmul (F.args_int_rmul_2 _ _) (tm_declines k t a its.toArray n dd sl)
      ⟨ho, rfl, ⟨_, ho, rfl⟩, call_meets F.slot_tuple_mul ⟨_, ho, rfl⟩ F.entry_tuple_mul (F.args_tuple_mul_2 _ _) (tm_times a its.toArray n k t dd sl hne h1 h2 (by rw [List.size_toArray, ← hl]; exact hz) (by rw [hnew]; exact hsz)) ⟨ho, ?_⟩⟩)
  rw [hnew]
  refine ⟨.ref s.heap.objs.size, _, I.laid (t' := s.toks) (o := .tup (List.replicate k.toNat xs).flatten) (fun b ob e => Heap.get?_push_of_some _ e) (Nat.le_refl _) ?_, rfl, q _ (I.hok.fresh (Nat.le_refl _))⟩
  exact ⟨by rw [len_rep, Nat.mul_comm]; exact hz, _, r.rep k.toNat, IsTup.new _ _⟩
end
end L2
end
section
set_option Elab.async false
set_option linter.all false
set_option maxRecDepth 100000
set_option maxHeartbeats 4000000
namespace ZS
open PySem PySem.Spec PyProof.Rows L2
/-! ### zip(a, b, strict=True) over two lists of one length -/
abbrev ZipS (h : Heap) (z ti to_ : Addr) (own : Value) : Prop :=
  h.get? z = some { cls := .type "zip", dict := none, data := .fields #[own, .bool false, .bool true, .ref ti, .ref to_], slots := #[] }
section
variable {prog : Program} {w : World} {A : Around} {E : Value → Shared → Prop} {s : Shared}
theorem draw_item {it l : Addr} {i : Nat} {items : Array Value} {x : Value} {Q : Option Value → Shared → Prop} (hit : s.heap.IsListIter it l i) (hl : s.heap.IsList l items) (hx : items[i]? = some x)
    (hQ : ∀ h', h'.IsListIter it l (i + 1) → Heap.SameBut it s.heap h' → Q (some x) { s with heap := h' }) : wpAny (model prog w) A (Builtin.SmallTypes.nextOrEnd (.ref it)) Q E s := by
  unfold Builtin.SmallTypes.nextOrEnd
  exact wpAny_bind (wpAny_attempt (wpAny_nextOf_list_item hit hl hx fun h' a b => wpAny_pure (hQ h' a b)))
theorem draw_end {it l : Addr} {i : Nat} {items : Array Value} {Q : Option Value → Shared → Prop} (hh : A.handled = none) (hit : s.heap.IsListIter it l i) (hl : s.heap.IsList l items) (hx : items[i]? = none)
    (hQ : ∀ h', Heap.ExtBut it s.heap h' → Q none { s with heap := h' }) : wpAny (model prog w) A (Builtin.SmallTypes.nextOrEnd (.ref it)) Q E s := by
  unfold Builtin.SmallTypes.nextOrEnd
  refine wpAny_bind (wpAny_attempt (wpAny_nextOf_list_end hh hit hl hx fun h' e k ho => ?_))
  obtain ⟨o, ho, hc⟩ := ho
  refine wpAny_bind (wpAny_isInstance (T := "StopIteration") (b := true) ⟨o, ho, hc⟩ isSubtype_stop ?_)
  exact wpAny_pure (hQ h' k)
theorem stop_raises {α : Type} {Q : α → Shared → Prop} (hh : A.handled = none) (hE : ∀ h' e, (∀ b o, s.heap.get? b = some o → h'.get? b = some o) → (∃ o, h'.get? e = some o ∧ o.cls = .type "StopIteration") → E (.ref e) { s with heap := h' }) :
    wpAny (model prog w) A (Builtin.SmallTypes.stopIteration : Sem α) Q E s := by
  unfold Builtin.SmallTypes.stopIteration
  refine wpAny_bind ?_
  simp only [newExc, newTuple]
  refine wpAny_bind (wpAny_newObj_type ?_ (by size_fits))
  refine wpAny_bind (m := firstArgMember _ _) (wpAny_of_eq (a := Value.none) (by first | rfl | (simp only [firstArgMember]; rfl)) ?_)
  refine wpAny_newObj_type ?_ (by size_fits)
  simp only [raiseNew]
  refine wpAny_bind (wpAny_handled ?_)
  rw [hh]
  refine wpAny_bind (wpAny_pure (wpAny_throw ?_))
  exact hE _ _ (fun b o e => Heap.get?_push_of_some _ (Heap.get?_push_of_some _ e)) ⟨_, Heap.get?_push_size _ rfl, rfl⟩
/-- one more pair -/
theorem next_pair {z ti to_ i1 i2 l1 l2 : Addr} {k : Nat} {xs ys : Array Value} {x y a b : Value} {Q : Value → Shared → Prop} (D : ZipApart z ti to_ i1 i2 l1 l2) (hz : ZipS s.heap z ti to_ .none) (hI : IsPair s.heap ti (.ref i1) (.ref i2)) (hO : IsPair s.heap to_ a b)
    (j1 : s.heap.IsListIter i1 l1 k) (j2 : s.heap.IsListIter i2 l2 k) (m1 : s.heap.IsList l1 xs) (m2 : s.heap.IsList l2 ys) (hx : xs[k]? = some x) (hy : ys[k]? = some y)
    (hQ : ∀ h', ZipS h' z ti to_ (rawInt s.heap.objs.size) → IsPair h' to_ x y → h'.IsListIter i1 l1 (k + 1) → h'.IsListIter i2 l2 (k + 1) → IsPair h' s.heap.objs.size x y →
      (∀ c o, c ≠ z → c ≠ to_ → c ≠ i1 → c ≠ i2 → s.heap.get? c = some o → h'.get? c = some o) → Q (.ref s.heap.objs.size) { s with heap := h' }) :
    wpAny (model prog w) A (Builtin.«zip.__next__» ⟨[.ref z], []⟩) (fun fin s' => ∃ v, fin = .done (.ret v) ∧ Q v s') E s := by
  show wpAny _ _ (field (.ref z) 2 >>= _) _ _ _
  refine wpAny_bind (wpAny_field hz rfl (x := .bool true) rfl ?_)
  show wpAny _ _ (field (.ref z) 3 >>= _) _ _ _
  refine wpAny_bind (wpAny_field hz rfl (x := .ref ti) rfl ?_)
  refine wpAny_bind (wpAny_seqItems hI rfl ?_)
  show wpAny _ _ (Builtin.SmallTypes.ownedTupleIsFree (.ref z) >>= _) _ _ _
  refine wpAny_bind ?_
  unfold Builtin.SmallTypes.ownedTupleIsFree
  refine wpAny_bind (wpAny_field hz rfl (x := .none) rfl (wpAny_pure ?_))
  simp only [if_true]
  refine wpAny_bind (wpAny_rule ?_)
  refine wpAny_bind (wpAny_field hz rfl (x := .ref to_) rfl ?_)
  refine wpAny_bind (wpAny_setField_rec hz (by simp) fun g1 z1 e1 => ?_)
  replace z1 : ZipS g1 z ti to_ .ellipsis := z1
  refine wpAny_bind ?_
  simp only [List.zipIdx_cons, List.zipIdx_nil, List.forIn_cons, List.forIn_nil]
  refine wpAny_bind (wpAny_bind (wpAny_onRaise ?_))
  show wpAny _ _ (Builtin.SmallTypes.nextOrEnd (.ref i1)) _ _ _
  refine draw_item (j1.extBut e1.extBut D.i1z) (m1.extBut e1.extBut D.l1z) hx fun g2 n1 e2 => ?_
  have p2 : IsPair g2 to_ a b := e2.extBut _ _ D.TOi1 (e1.extBut _ _ D.TOz hO)
  refine wpAny_bind (wpAny_seqItems p2 rfl ?_)
  refine wpAny_bind (wpAny_updateSeq_pair p2 fun g3 p3 e3 => ?_)
  replace p3 : IsPair g3 to_ x b := p3
  refine wpAny_bind (wpAny_letGo (wpAny_pure ?_))
  refine wpAny_bind (wpAny_bind (wpAny_onRaise ?_))
  show wpAny _ _ (Builtin.SmallTypes.nextOrEnd (.ref i2)) _ _ _
  refine draw_item (((j2.extBut e1.extBut D.i2z).extBut e2.extBut D.i12.symm).extBut e3.extBut D.TOi2.symm) (((m2.extBut e1.extBut D.l2z).extBut e2.extBut D.l2i1).extBut e3.extBut D.l2TO) hy fun g4 n2 e4 => ?_
  have p4 : IsPair g4 to_ x b := e4.extBut _ _ D.TOi2 p3
  refine wpAny_bind (wpAny_seqItems p4 rfl ?_)
  refine wpAny_bind (wpAny_updateSeq_pair p4 fun g5 p5 e5 => ?_)
  replace p5 : IsPair g5 to_ x y := p5
  refine wpAny_bind (wpAny_letGo (wpAny_pure (wpAny_pure ?_)))
  refine wpAny_bind (wpAny_seqItems p5 rfl ?_)
  refine wpAny_bind (wpAny_newTuple ?_)
  have size : g5.objs.size = s.heap.objs.size := by rw [e5.1, e4.1, e3.1, e2.1, e1.1]
  have z5 : ZipS g5 z ti to_ .ellipsis := e5.extBut _ _ D.TOz.symm (e4.extBut _ _ D.i2z.symm (e3.extBut _ _ D.TOz.symm (e2.extBut _ _ D.i1z.symm z1)))
  have keep : ∀ c o, c ≠ z → c ≠ to_ → c ≠ i1 → c ≠ i2 → s.heap.get? c = some o → g5.get? c = some o := fun c o c1 c2 c3 c4 e =>
    e5.extBut _ _ c2 (e4.extBut _ _ c4 (e3.extBut _ _ c2 (e2.extBut _ _ c3 (e1.extBut _ _ c1 e))))
  have q1 : g5.IsListIter i1 l1 (k + 1) := ((n1.extBut e3.extBut D.TOi1.symm).extBut e4.extBut D.i12).extBut e5.extBut D.TOi1.symm
  have q2 : g5.IsListIter i2 l2 (k + 1) := n2.extBut e5.extBut D.TOi2.symm
  have ltz : z < g5.objs.size := Heap.lt_size z5
  show wpAny _ _ (Builtin.SmallTypes.ownedTupleHandOut (.ref z) (.ref g5.objs.size) >>= _) _ _ _
  refine wpAny_bind ?_
  unfold Builtin.SmallTypes.ownedTupleHandOut
  have z6 : ZipS (g5.push { cls := .type "tuple", data := .seq #[x, y] }) z ti to_ .ellipsis := Heap.get?_push_of_some _ z5
  refine wpAny_bind (wpAny_setField_rec z6 (by simp) fun g7 z7 e7 => ?_)
  replace z7 : ZipS g7 z ti to_ (rawInt g5.objs.size) := z7
  refine wpAny_setField_rec z7 (by simp) fun g8 z8 e8 => ?_
  replace z8 : ZipS g8 z ti to_ (rawInt g5.objs.size) := z8
  have up : ∀ c o, c ≠ z → g5.get? c = some o → g8.get? c = some o := fun c o c1 e => e8.extBut _ _ c1 (e7.extBut _ _ c1 (Heap.get?_push_of_some _ e))
  have t8 : IsPair g8 g5.objs.size x y := e8.extBut _ _ (Nat.ne_of_gt ltz) (e7.extBut _ _ (Nat.ne_of_gt ltz) (Heap.get?_push_size _ rfl))
  rw [size] at z8 t8
  refine wpAny_pure ⟨_, rfl, ?_⟩
  show Q (.ref g5.objs.size) _
  rw [size]
  exact hQ g8 z8 (up _ _ D.TOz p5) (q1.at fun o e => up _ o D.i1z e) (q2.at fun o e => up _ o D.i2z e) t8 fun c o c1 c2 c3 c4 e => up c o c1 (keep c o c1 c2 c3 c4 e)
/-- both have ended -/
theorem next_stop {z ti to_ i1 i2 l1 l2 : Addr} {k : Nat} {xs ys : Array Value} {a b : Value} {Q : Fin → Shared → Prop} (hh : A.handled = none) (D : ZipApart z ti to_ i1 i2 l1 l2) (hz : ZipS s.heap z ti to_ .none) (hI : IsPair s.heap ti (.ref i1) (.ref i2)) (hO : IsPair s.heap to_ a b)
    (j1 : s.heap.IsListIter i1 l1 k) (j2 : s.heap.IsListIter i2 l2 k) (m1 : s.heap.IsList l1 xs) (m2 : s.heap.IsList l2 ys) (hx : xs[k]? = none) (hy : ys[k]? = none)
    (hE : ∀ h' e, (∀ c o, c ≠ z → c ≠ to_ → c ≠ i1 → c ≠ i2 → s.heap.get? c = some o → h'.get? c = some o) → (∃ o, h'.get? e = some o ∧ o.cls = .type "StopIteration") → E (.ref e) { s with heap := h' }) :
    wpAny (model prog w) A (Builtin.«zip.__next__» ⟨[.ref z], []⟩) Q E s := by
  show wpAny _ _ (field (.ref z) 2 >>= _) _ _ _
  refine wpAny_bind (wpAny_field hz rfl (x := .bool true) rfl ?_)
  show wpAny _ _ (field (.ref z) 3 >>= _) _ _ _
  refine wpAny_bind (wpAny_field hz rfl (x := .ref ti) rfl ?_)
  refine wpAny_bind (wpAny_seqItems hI rfl ?_)
  show wpAny _ _ (Builtin.SmallTypes.ownedTupleIsFree (.ref z) >>= _) _ _ _
  refine wpAny_bind ?_
  unfold Builtin.SmallTypes.ownedTupleIsFree
  refine wpAny_bind (wpAny_field hz rfl (x := .none) rfl (wpAny_pure ?_))
  simp only [if_true]
  refine wpAny_bind (wpAny_rule ?_)
  refine wpAny_bind (wpAny_field hz rfl (x := .ref to_) rfl ?_)
  refine wpAny_bind (wpAny_setField_rec hz (by simp) fun g1 z1 e1 => ?_)
  replace z1 : ZipS g1 z ti to_ .ellipsis := z1
  refine wpAny_bind ?_
  simp only [List.zipIdx_cons, List.zipIdx_nil, List.forIn_cons, List.forIn_nil]
  refine wpAny_bind (wpAny_bind (wpAny_onRaise ?_))
  show wpAny _ _ (Builtin.SmallTypes.nextOrEnd (.ref i1)) _ _ _
  refine draw_end hh (j1.extBut e1.extBut D.i1z) (m1.extBut e1.extBut D.l1z) hx fun g2 e2 => ?_
  have z2 : ZipS g2 z ti to_ .ellipsis := e2 _ _ D.i1z.symm z1
  refine wpAny_bind (wpAny_setField_rec z2 (by simp) fun g3 z3 e3 => ?_)
  refine wpAny_bind ?_
  show wpAny _ _ (forIn [(Value.ref i2, 1)] PUnit.unit _ >>= _) _ _ _
  refine wpAny_bind ?_
  simp only [List.forIn_cons, List.forIn_nil]
  refine wpAny_bind ?_
  have k3 : ∀ c o, c ≠ z → c ≠ i1 → s.heap.get? c = some o → g3.get? c = some o := fun c o c1 c3 e => e3.extBut _ _ c1 (e2 _ _ c3 (e1.extBut _ _ c1 e))
  refine wpAny_bind (draw_end hh (j2.at fun o e => k3 _ o D.i2z D.i12.symm e) (m2.at fun o e => k3 _ o D.l2z D.l2i1 e) hy fun g4 e4 => ?_)
  rw [if_neg (by simp)]
  refine wpAny_pure (wpAny_pure (wpAny_bind (wpAny_rule (stop_raises hh fun g5 e k5 he => hE g5 e (fun c o c1 c2 c3 c4 q => ?_) he))))
  exact k5 c o (e4 _ _ c4 (k3 c o c1 c3 q))
theorem pyNext_pair {z ti to_ i1 i2 l1 l2 : Addr} {k : Nat} {xs ys : Array Value} {x y a b : Value} {Q : Option Value → Shared → Prop} (D : ZipApart z ti to_ i1 i2 l1 l2) (hz : ZipS s.heap z ti to_ .none) (hI : IsPair s.heap ti (.ref i1) (.ref i2)) (hO : IsPair s.heap to_ a b)
    (j1 : s.heap.IsListIter i1 l1 k) (j2 : s.heap.IsListIter i2 l2 k) (m1 : s.heap.IsList l1 xs) (m2 : s.heap.IsList l2 ys) (hx : xs[k]? = some x) (hy : ys[k]? = some y)
    (hQ : ∀ h', ZipS h' z ti to_ (rawInt s.heap.objs.size) → IsPair h' to_ x y → h'.IsListIter i1 l1 (k + 1) → h'.IsListIter i2 l2 (k + 1) → IsPair h' s.heap.objs.size x y →
      (∀ c o, c ≠ z → c ≠ to_ → c ≠ i1 → c ≠ i2 → s.heap.get? c = some o → h'.get? c = some o) → Q (some (.ref s.heap.objs.size)) { s with heap := h' }) : wpAny (model prog w) A (pyNext (.ref z)) Q E s := by
  have ty : s.TypeIs (.ref z) "zip" := ⟨_, hz, rfl⟩
  unfold pyNext
  refine wpAny_bind (wpAny_attempt (wpAny_callSpecial?_slot (name := Str.ofString "__next__") ty F.slot_zip_next (wpAny_call_entry F.slot_zip_next ty F.entry_zip_next ?_ (F.args_zip_next_1 _))))
  exact next_pair D hz hI hO j1 j2 m1 m2 hx hy fun h' a1 a2 a3 a4 a5 a6 => wpAny_pure (hQ h' a1 a2 a3 a4 a5 a6)
theorem pyNext_stop {z ti to_ i1 i2 l1 l2 : Addr} {k : Nat} {xs ys : Array Value} {a b : Value} {Q : Option Value → Shared → Prop} (hh : A.handled = none) (D : ZipApart z ti to_ i1 i2 l1 l2) (hz : ZipS s.heap z ti to_ .none) (hI : IsPair s.heap ti (.ref i1) (.ref i2)) (hO : IsPair s.heap to_ a b)
    (j1 : s.heap.IsListIter i1 l1 k) (j2 : s.heap.IsListIter i2 l2 k) (m1 : s.heap.IsList l1 xs) (m2 : s.heap.IsList l2 ys) (hx : xs[k]? = none) (hy : ys[k]? = none)
    (hQ : ∀ h', (∀ c o, c ≠ z → c ≠ to_ → c ≠ i1 → c ≠ i2 → s.heap.get? c = some o → h'.get? c = some o) → Q none { s with heap := h' }) : wpAny (model prog w) A (pyNext (.ref z)) Q E s := by
  have ty : s.TypeIs (.ref z) "zip" := ⟨_, hz, rfl⟩
  unfold pyNext
  refine wpAny_bind (wpAny_attempt (wpAny_callSpecial?_slot (name := Str.ofString "__next__") ty F.slot_zip_next (wpAny_call_entry F.slot_zip_next ty F.entry_zip_next ?_ (F.args_zip_next_1 _))))
  refine next_stop hh D hz hI hO j1 j2 m1 m2 hx hy fun h' e hk he => ?_
  obtain ⟨o, ho, hc⟩ := he
  exact wpAny_bind (wpAny_isInstance (T := "StopIteration") (b := true) ⟨o, ho, hc⟩ isSubtype_stop (wpAny_pure (hQ _ hk)))
theorem owned_goes {elts : List Expr} {x1} {pos : Pos} {z ti to_ T : Addr} {Q : Unit → Shared → Prop} (hz : ZipS s.heap z ti to_ (rawInt T)) (hQ : ∀ h', ZipS h' z ti to_ .none → Heap.SameBut z s.heap h' → Q () { s with heap := h' }) :
    wpAny (model prog w) A (letOwnedTupleGo (.Tuple elts x1 pos) (.ref z) (.ref T)) Q E s := by
  unfold letOwnedTupleGo
  refine wpAny_bind (wpAny_load hz ?_)
  show wpAny _ _ (if (_ && (#[rawInt T, .bool false, .bool true, .ref ti, .ref to_] : Array Value)[0]? == some (rawInt T)) = true then _ else _) Q E s
  rw [if_pos (by simp)]
  refine wpAny_bind (wpAny_rule ?_)
  show wpAny _ _ (setField (.ref z) 0 .none) Q E s
  exact wpAny_setField_rec hz (by simp) fun h' hz' hs' => hQ h' hz' hs'
theorem iter_self {z ti to_ : Addr} {f0 : Value} {Q : Value → Shared → Prop} (hz : ZipS s.heap z ti to_ f0) (h : Q (.ref z) s) : wpAny (model prog w) A (pyIter (.ref z)) Q E s := by
  have ty : s.TypeIs (.ref z) "zip" := ⟨_, hz, rfl⟩
  refine wpAny_pyIter_slot ty F.slot_zip_iter (wpAny_call_entry F.slot_zip_iter ty F.entry_zip_iter ?_ (F.args_zip_iter_1 _))
  show wpAny _ _ (ret (.ref z)) _ _ s
  exact wpAny_pure ⟨_, rfl, "zip", _, ty, F.slot_zip_next.lookup, h⟩
end
abbrev hS1 (h : Heap) (l1 : Addr) : Heap := h.push { cls := .type "list_iterator", data := .fields #[.ref l1, .int 0 0] }
abbrev hS2 (h : Heap) (l1 l2 : Addr) : Heap := (hS1 h l1).push { cls := .type "list_iterator", data := .fields #[.ref l2, .int 0 0] }
abbrev hS3 (h : Heap) (l1 l2 : Addr) : Heap := (hS2 h l1 l2).push { cls := .type "tuple", data := .seq #[.ref h.objs.size, .ref (hS1 h l1).objs.size] }
abbrev hS4 (h : Heap) (l1 l2 : Addr) : Heap := (hS3 h l1 l2).push { cls := .type "tuple", data := .seq #[.none, .none] }
abbrev hS5 (h : Heap) (l1 l2 : Addr) : Heap := (hS4 h l1 l2).push { cls := .type "zip", data := .fields #[.none, .bool false, .bool true, .ref (hS2 h l1 l2).objs.size, .ref (hS3 h l1 l2).objs.size] }
theorem new_meets (l1 l2 : Addr) (xs ys : Array Value) :
    Meets (Builtin.«zip.__new__» ⟨[.type "zip", .ref l1, .ref l2], [("strict", .bool true)]⟩) (fun _ R s => s.heap.IsList l1 xs ∧ s.heap.IsList l2 ys ∧
      R (.ok (.ret (.ref (hS4 s.heap l1 l2).objs.size))) { s with heap := hS5 s.heap l1 l2 }) :=
  .of_wp fun prog w A R s h => by
    obtain ⟨hp, g, d, tk, os⟩ := s
    obtain ⟨hl1, hl2, h⟩ := h
    have hsub := sub_zip
    have hL1 : Heap.IsList (Shared.heap ⟨hp, g, d, tk, os⟩) l1 xs := hl1
    have hL2 : Heap.IsList (Shared.heap ⟨hp.push { cls := .type "list_iterator", data := .fields #[.ref l1, .int 0 0] }, g, d, tk, os⟩) l2 ys := Heap.IsList.push hl2 _
    wp_walk using wpAny_pyIter_list hL1, wpAny_pyIter_list hL2
    exact ⟨_, rfl, h⟩
theorem ck_type (a b : Value) : checkTypeCall "zip" ⟨[a, b], [("strict", .bool true)]⟩ = pure () := by kernel_rfl
theorem ck_new (a b : Value) : checkBuiltinCall "zip.__new__" ⟨[.type "zip", a, b], [("strict", .bool true)]⟩ = pure () := by kernel_rfl
theorem ck_init (a b c : Value) : argsOk "object.__init__" ⟨[a, b, c], [("strict", .bool true)]⟩ := by
  unfold argsOk
  rw [signature?_of (id := "object.__init__") (n := ['_', '_', 't', 'i', 'n', 'i', '_', '_']) (o := ['t', 'c', 'e', 'j', 'b', 'o']) (by kernel_rfl) F.owner_object]
  kernel_rfl
section
variable {prog : Program} {w : World} {A : Around} {E : Value → Shared → Prop} {s : Shared}
theorem init_meets {self : Value} {rest : List Value} {kw : List (Str × Value)} (hl : typeLookup (.type "zip") "__init__" = pure (some (.builtin "object.__init__"))) (hm : Bind.madeBy (.type "zip") = pure (some "zip.__new__")) :
    Meets (Builtin.«object.__init__» ⟨self :: rest, kw⟩) (fun _ R s => s.TypeIs self "zip" ∧ R (.ok (.ret .none)) s) := by
  refine Meets.of_wp fun prog w A R s hs => ?_
  obtain ⟨hT, hq⟩ := hs
  have hne : (some "zip.__new__" != some "object.__new__") = true := by decide
  cases rest with
  | nil =>
    cases kw with
    | nil => exact wpAny_pure ⟨_, rfl, hq⟩
    | cons k kw =>
      repeat (any_goals (first | assumption | wp_step))
      exact ⟨_, rfl, hq⟩
  | cons a rest =>
    repeat (any_goals (first | assumption | wp_step))
    exact ⟨_, rfl, hq⟩
theorem call_strict {l1 l2 : Addr} {xs ys : Array Value} {Q : Value → Shared → Prop} (m1 : s.heap.IsList l1 xs) (m2 : s.heap.IsList l2 ys)
    (h : Q (.ref (hS4 s.heap l1 l2).objs.size) { s with heap := hS5 s.heap l1 l2 }) : wpAny (model prog w) A (call (.type "zip") [.ref l1, .ref l2] [("strict", .bool true)]) Q E s := by
  have ft := F.called_zip
  obtain ⟨c, tl, hmro⟩ := ft.mro
  have hmade := ft.made
  have hsub := ft.sub
  have h1 := ft.notType
  have h2 := ft.canCreate
  have hct := ck_type (.ref l1) (.ref l2)
  have g5 : (hS5 s.heap l1 l2).get? (hS4 s.heap l1 l2).objs.size = some _ := Heap.get?_push_size _ rfl
  refine wpAny_call (codeAny_of_tree ?_)
  show wpAny _ _ (callAny (.type "zip") _) _ _ _
  refine wpAny_pure ⟨Code.quiet_builtin _ (by decide +kernel), codeAny_builtin F.entry_type_call ?_⟩
  rw [Around.under_plain (weight_type_call_type "zip" [.ref l1, .ref l2] [("strict", .bool true)]) (units_type_call_type "zip" [.ref l1, .ref l2] [("strict", .bool true)])]
  repeat (any_goals (first | assumption | wp_step))
  refine codeAny_mono (R := fun r s' => r = .ok (.ret (.ref (hS4 s.heap l1 l2).objs.size)) ∧ s' = { s with heap := hS5 s.heap l1 l2 }) (codeAny_call_builtin ft.plain F.entry_zip_new (wpAny_of_eq (ck_new (.ref l1) (.ref l2)) (new_meets l1 l2 xs ys prog w A.in1 (fun r s' => r = .ok (.ret (.ref (hS4 s.heap l1 l2).objs.size)) ∧ s' = { s with heap := hS5 s.heap l1 l2 }) s ⟨m1, m2, rfl, rfl⟩))) fun r s1 hr => ?_
  obtain ⟨e1, e2⟩ := hr
  subst e1
  subst e2
  have hT : Shared.TypeIs { s with heap := hS5 s.heap l1 l2 } (.ref (hS4 s.heap l1 l2).objs.size) "zip" := ⟨_, g5, rfl⟩
  have hli := ft.init.lookup
  have hbi := ft.init.bind (.ref (hS4 s.heap l1 l2).objs.size)
  repeat (any_goals (first | assumption | wp_step))
  refine codeAny_mono (R := fun r s' => r = .ok (.ret .none) ∧ s' = { s with heap := hS5 s.heap l1 l2 }) (codeAny_call_builtin ft.init.plain F.entry_object_init (ft.init.check _ _ _ _ _ _ _ _ hT (ck_init _ _ _) (init_meets ft.init.lookup ft.made prog w A.in1 (fun r s' => r = .ok (.ret .none) ∧ s' = { s with heap := hS5 s.heap l1 l2 }) _ ⟨hT, rfl, rfl⟩))) fun r2 s2 hr2 => ?_
  obtain ⟨e1, e2⟩ := hr2
  subst e1
  subst e2
  repeat (any_goals (first | assumption | wp_step))
end
section
variable {M : Model} {A : Around} {E : Value → Shared → Prop} {s : Shared} {env : Env}
theorem with_kw {pos : Pos} {T : String} {e : Expr} {rest : List Expr} {kws : List Keyword} {Q : Value → Shared → Prop}
    (h : wpAny M A (spliced (backTo pos (starEach (e :: rest) env))) (fun vs s1 => wpAny M A (evalAll ((backToKw pos (keywordEach kws env)).map (·.2)))
      (fun kvs s2 => wpAny M A (call (.type T) vs (((backToKw pos (keywordEach kws env)).filterMap (·.1)).zip kvs)) Q E s2) E s1) E s)
    (he : backTo pos (starEach (e :: rest) env) = (false, eval e env) :: backTo pos (starEach rest env))
    (hp : (backTo pos (starEach (e :: rest) env)).any (·.1) = false)
    (ha : (backToKw pos (keywordEach kws env)).all (·.1.isSome) = true)
    (hk : (backToKw pos (keywordEach kws env)).any (·.1.isNone) = false) :
    wpAny M A (callWith pos (.type T) [] (backTo pos (starEach (e :: rest) env)) (backToKw pos (keywordEach kws env))) Q E s := by
  have hargs : wpAny M A (evalArgs (.type T) true (backTo pos (starEach (e :: rest) env)) (backToKw pos (keywordEach kws env))) (fun a s1 => wpAny M A (call (.type T) ([] ++ a.pos) a.kw) Q E s1) E s := by
    rw [he] at h ⊢
    exact evalArgs_kwB ha h
  unfold callWith
  refine wpAny_bind (wpAny_holding (thn hargs fun a s1 h1 => wpAny_bind (wpAny_standAt ?_)))
  simp only [hp, hk, Bool.or_false]
  refine wpAny_bind (wpAny_pure ?_)
  exact wpAny_bind (thn h1 fun r s2 hr => wpAny_bind (wpAny_holding (wpAny_point (wpAny_pure hr))))
end
/-- the lists at a and b, of one length, the items in new pairs -/
def Itzs (K : PySem.W.Frag) (a b : Addr) : It :=
  ⟨fun i H => ∃ (xs ys : List V) (x y : V), SqL K H a xs ∧ SqL K H b ys ∧ xs[i]? = some x ∧ ys[i]? = some y,
    fun i H v H' => ∃ T x y, v = .ref T ∧ H T = none ∧ H' = upd H T (.tup [x, y]) ∧ (∀ xs, SqL K H a xs → xs[i]? = some x) ∧ ∀ ys, SqL K H b ys → ys[i]? = some y,
    fun i H => ∃ xs ys : List V, SqL K H a xs ∧ SqL K H b ys ∧ xs.length ≤ i ∧ ys.length ≤ i⟩
theorem turn_zipS {P : Program} {w : World} {K : PySem.W.Frag} {elts : List Expr} {kk : Nat} {tpos : Pos} {a b z ti to_ i1 i2 : Addr} (D : ZipApart z ti to_ i1 i2 a b) :
    Turn P w K (.Tuple elts kk tpos) (Itzs K a b) [z, ti, to_, i1, i2] z (fun i h => ZipS h z ti to_ .none ∧ IsPair h ti (.ref i1) (.ref i2) ∧ (∃ x y, IsPair h to_ x y) ∧ h.IsListIter i1 a i ∧ h.IsListIter i2 b i) where
  mem := by simp
  obj := fun i h st c hc => by
    obtain ⟨hz, hTI, ⟨x, y, hTO⟩, ⟨o1, e1, _, d1⟩, ⟨o2, e2, _, d2⟩⟩ := st
    have e' : c = z ∨ c = ti ∨ c = to_ ∨ c = i1 ∨ c = i2 := by simpa using hc
    rcases e' with q | q | q | q | q
    · rw [q]; exact ⟨_, hz, fun v q => nomatch q⟩
    · rw [q]; exact ⟨_, hTI, fun v q => nomatch q⟩
    · rw [q]; exact ⟨_, hTO, fun v q => nomatch q⟩
    · rw [q]; exact ⟨o1, e1, fun v q => by rw [d1] at q; cases q⟩
    · rw [q]; exact ⟨o2, e2, fun v q => by rw [d2] at q; cases q⟩
  keep := fun i h h' st k => by
    obtain ⟨hz, hTI, ⟨x, y, hTO⟩, h1, h2⟩ := st
    exact ⟨k z (by simp) _ hz, k ti (by simp) _ hTI, ⟨x, y, k to_ (by simp) _ hTO⟩, h1.at fun o q => k i1 (by simp) o q, h2.at fun o q => k i2 (by simp) o q⟩
  item := by
    intro X hP hw hK hc i pins s σ H E I hf st hg
    subst hP hw hK
    obtain ⟨hz, hTI, ⟨x0, y0, hTO⟩, h1, h2⟩ := st
    obtain ⟨xs, ys, x, y, hqx, hqy, hx, hy⟩ := hg
    obtain ⟨its, rv, p, _⟩ := I.list hqx
    obtain ⟨its2, rv2, p2, _⟩ := I.list hqy
    obtain ⟨u, hu, ru⟩ := rv.get hx
    obtain ⟨u2, hu2, ru2⟩ := rv2.get hy
    have hzl : z < s.heap.objs.size := Heap.lt_size hz
    refine pyNext_pair D hz hTI hTO h1 h2 p.isList p2.isList (x := u) (y := u2) (by simpa using hu) (by simpa using hu2) fun h' z' TO' h1' h2' hT hk => ?_
    refine ⟨_, rfl, owned_goes (s := { s with heap := h' }) z' fun h'' z'' sb => ?_⟩
    have hT2 : h''.get? s.heap.objs.size = some { cls := .type "tuple", data := .seq #[u, u2] } := (sb.2 _ (Nat.ne_of_gt hzl)).trans hT
    have new : ObjOk X.prog X.w (upd H s.heap.objs.size (.tup [x, y])) h'' s.heap.objs.size (.tup [x, y]) :=
      ⟨by show 2 ≤ sizeLine; decide, [u, u2], .cons ru (.cons ru2 .nil), ⟨_, hT2, rfl, _, rfl⟩⟩
    have I1 : Inv X pins σ (upd H s.heap.objs.size (.tup [x, y])) { s with heap := h'' } :=
      I.turnedNew (t' := s.toks) (ch := [z, ti, to_, i1, i2]) (fun c o hb q => (sb.2 c (fun q' => hb (by simp [q']))).trans (hk c o (fun q' => hb (by simp [q'])) (fun q' => hb (by simp [q'])) (fun q' => hb (by simp [q'])) (fun q' => hb (by simp [q'])) q)) hf (Nat.le_refl _) new
    refine ⟨.ref s.heap.objs.size, _, I1, rfl, ⟨_, x, y, rfl, I.hok.fresh (Nat.le_refl _), rfl, fun l hl => by rw [I.list_inj hl hqx]; exact hx, fun l hl => by rw [I.list_inj hl hqy]; exact hy⟩, ⟨z'', ?_, ⟨u, u2, ?_⟩, ?_, ?_⟩, fun c hcm => ?_⟩
    · exact (sb.2 _ D.TIz).trans (hk _ _ D.TIz D.TITO D.TIi1 D.TIi2 hTI)
    · exact (sb.2 _ D.TOz).trans TO'
    · exact h1'.at fun o q => (sb.2 _ D.i1z).trans q
    · exact h2'.at fun o q => (sb.2 _ D.i2z).trans q
    · have hlt : c < s.heap.objs.size := by
        have e' : c = z ∨ c = ti ∨ c = to_ ∨ c = i1 ∨ c = i2 := by simpa using hcm
        rcases e' with q | q | q | q | q
        · rw [q]; exact hzl
        · rw [q]; exact Heap.lt_size hTI
        · rw [q]; exact Heap.lt_size hTO
        · rw [q]; obtain ⟨_, e1, _⟩ := h1; exact Heap.lt_size e1
        · rw [q]; obtain ⟨_, e2, _⟩ := h2; exact Heap.lt_size e2
      rw [upd_ne (Nat.ne_of_lt hlt)]
      exact (hf c hcm).1
  done := by
    intro X hP hw hK hc i pins s σ H E I hf st hg
    subst hP hw hK
    obtain ⟨hz, hTI, ⟨x0, y0, hTO⟩, h1, h2⟩ := st
    obtain ⟨xs, ys, hqx, hqy, e1, e2⟩ := hg
    obtain ⟨its, rv, p, _⟩ := I.list hqx
    obtain ⟨its2, rv2, p2, _⟩ := I.list hqy
    have l1 := rv.length
    have l2 := rv2.length
    exact pyNext_stop (I.ok.hd hc) D hz hTI hTO h1 h2 p.isList p2.isList (by simp; omega) (by simp; omega) fun h' hk => ⟨rfl, I.turnedL (t' := s.toks) (ch := [z, ti, to_, i1, i2]) (fun c o hb q =>
      hk c o (fun q' => hb (by simp [q'])) (fun q' => hb (by simp [q'])) (fun q' => hb (by simp [q'])) (fun q' => hb (by simp [q'])) q) hf⟩
  self := fun A i s Q E st h => iter_self st.1 h
def iZipS (K : PySem.W.Frag) (ta : TA) : TI := fun σ H R => ta σ H fun vs H1 => ∃ a b xs ys, vs = [.ref a, .ref b] ∧ SqL K H1 a xs ∧ SqL K H1 b ys ∧ R (Itzs K a b) H1
theorem pi_zipS {X : Cx} {e e2 : Expr} {ta : TA} {p pos tpos kp cp : Pos} {k0 : Nat} {elts : List Expr} {kk : Nat} (hg : Gl X "zip") (hm : X.mg "zip" = none) (ha : PA X [e, e2] ta)
    (he : backTo pos (starEach [e, e2] X.env) = (false, eval e X.env) :: backTo pos (starEach [e2] X.env) := by rfl) (hpl : (backTo pos (starEach [e, e2] X.env)).any (·.1) = false := by rfl) :
    PI X (.Tuple elts kk tpos) (.Call (.Name "zip" p) [e, e2] [⟨some "strict", .Constant (.bool true) k0 cp, kp⟩] pos) (iZipS X.K ta) := by
  intro pins s σ H R I h
  refine wpAny_Call_Name_kw (ld_blt I hg hm boot_zip5 (with_kw (thn (ha pos pins s σ H _ I h) fun us s1 ⟨vs, H1, I1, r1, q1⟩ => ?_) he hpl rfl rfl))
  refine kws_cons (Constant_bool (kws_nil ?_))
  obtain ⟨a, b, xs, ys, ex, hqx, hqy, q⟩ := q1
  subst ex
  cases r1 with
  | cons r rr =>
    cases rr with
    | cons r' rr =>
      cases rr
      cases r
      cases r'
      obtain ⟨its, rv, p1, _⟩ := I1.list hqx
      obtain ⟨its2, rv2, p2, _⟩ := I1.list hqy
      have la : a < s1.heap.objs.size := p1.lt
      have lb : b < s1.heap.objs.size := p2.lt
      have z1 : (hS1 s1.heap a).objs.size = s1.heap.objs.size + 1 := Heap.size_push ..
      have z2 : (hS2 s1.heap a b).objs.size = s1.heap.objs.size + 2 := by rw [Heap.size_push, z1]
      have z3 : (hS3 s1.heap a b).objs.size = s1.heap.objs.size + 3 := by rw [Heap.size_push, z2]
      have z4 : (hS4 s1.heap a b).objs.size = s1.heap.objs.size + 4 := by rw [Heap.size_push, z3]
      have g5 : (hS5 s1.heap a b).get? (hS4 s1.heap a b).objs.size = some _ := Heap.get?_push_size _ rfl
      have g4 : (hS5 s1.heap a b).get? (hS3 s1.heap a b).objs.size = some _ := Heap.get?_push_of_some _ (Heap.get?_push_size _ rfl)
      have g3 : (hS5 s1.heap a b).get? (hS2 s1.heap a b).objs.size = some _ := Heap.get?_push_of_some _ (Heap.get?_push_of_some _ (Heap.get?_push_size _ rfl))
      have g2 : (hS5 s1.heap a b).get? (hS1 s1.heap a).objs.size = some _ := Heap.get?_push_of_some _ (Heap.get?_push_of_some _ (Heap.get?_push_of_some _ (Heap.get?_push_size _ rfl)))
      have g1 : (hS5 s1.heap a b).get? s1.heap.objs.size = some _ := Heap.get?_push_of_some _ (Heap.get?_push_of_some _ (Heap.get?_push_of_some _ (Heap.get?_push_of_some _ (Heap.get?_push_size _ rfl))))
      rw [z2, z3, z4] at g5
      rw [z1, z2] at g3
      rw [z3] at g4
      rw [z1] at g2
      refine call_strict p1.isList p2.isList ?_
      rw [z4]
      refine iter_self g5 ?_
      have I2 : Inv X pins σ H1 { s1 with heap := hS5 s1.heap a b } := I1.kept (t' := s1.toks) fun c o x => Heap.get?_push_of_some _ (Heap.get?_push_of_some _ (Heap.get?_push_of_some _ (Heap.get?_push_of_some _ (Heap.get?_push_of_some _ x))))
      refine ⟨s1.heap.objs.size + 4, [s1.heap.objs.size + 4, s1.heap.objs.size + 2, s1.heap.objs.size + 3, s1.heap.objs.size, s1.heap.objs.size + 1], _, _, H1, rfl, I2, turn_zipS (PySem.W.ktu_apart s1.heap.objs.size a b la lb), ⟨g5, g3, ⟨_, _, g4⟩, ⟨_, g1, rfl, rfl⟩, ⟨_, g2, rfl, rfl⟩⟩, fun c hcm => ?_, q⟩
      have hle : s1.heap.objs.size ≤ c := by
        have e' : c = s1.heap.objs.size + 4 ∨ c = s1.heap.objs.size + 2 ∨ c = s1.heap.objs.size + 3 ∨ c = s1.heap.objs.size ∨ c = s1.heap.objs.size + 1 := by simpa using hcm
        rcases e' with z | z | z | z | z
        · rw [z]; exact Nat.le_add_right _ _
        · rw [z]; exact Nat.le_add_right _ _
        · rw [z]; exact Nat.le_add_right _ _
        · rw [z]; exact Nat.le_refl _
        · rw [z]; exact Nat.le_add_right _ _
      exact I1.fpOk hle (I1.hok.fresh hle)
/-- for (x, y) in zip(a, b, strict=True) -/
theorem for_zipS {K : PySem.W.Frag} {a b : Addr} {xs ys : List V} {g : TG} {tb : TS} {D : Ends} {σ : L2.St} {H : Hp} (hn : xs.length = ys.length) (Pv : Nat → L2.St → Hp → Prop) (h0 : Pv 0 σ H) (hl : ∀ i σ H, i ≤ xs.length → Pv i σ H → SqL K H a xs ∧ SqL K H b ys)
    (hs : ∀ i x y T σ H, xs[i]? = some x → ys[i]? = some y → H T = none → Pv i σ H → g (.ref T) σ (upd H T (.tup [x, y])) fun σ2 H2 => tb { D with nx := Pv (i + 1), ct := Pv (i + 1), bk := D.nx } σ2 H2) (hd : ∀ σ H, Pv xs.length σ H → D.nx σ H) :
    ∃ W : Nat → Nat → L2.St → Hp → Prop, (∃ m, W 0 m σ H) ∧ ∀ i m σ H, W i m σ H →
      ((Itzs K a b).stop i H ∧ D.nx σ H) ∨ ((Itzs K a b).go i H ∧ ∃ N : L2.St → Hp → Prop, (∀ σ' H', N σ' H' → ∃ m', m' < m ∧ W (i + 1) m' σ' H') ∧ ∀ x H', (Itzs K a b).yld i H x H' → g x σ H' fun σ2 H2 => tb { D with nx := N, ct := N, bk := D.nx } σ2 H2) := by
  refine ⟨fun i m σ H => m = xs.length - i ∧ i ≤ xs.length ∧ Pv i σ H, ⟨xs.length, by simp, Nat.zero_le _, h0⟩, ?_⟩
  rintro i m σ H ⟨rfl, hi, p⟩
  obtain ⟨q1, q2⟩ := hl i σ H hi p
  by_cases hlt : i < xs.length
  · refine .inr ⟨⟨xs, ys, xs[i], ys[i]'(by omega), q1, q2, by simp [hlt], List.getElem?_eq_getElem (by omega)⟩, Pv (i + 1), fun σ' H' p' => ⟨xs.length - (i + 1), by omega, rfl, hlt, p'⟩, fun v H' y => ?_⟩
    obtain ⟨T, x, y, rfl, hT, rfl, e1, e2⟩ := y
    exact hs i x y T σ H (e1 xs q1) (e2 ys q2) hT p
  · have e : i = xs.length := by omega
    subst e
    exact .inl ⟨⟨xs, ys, q1, q2, Nat.le_refl _, by omega⟩, hd σ H p⟩
end ZS
end
section
set_option Elab.async false
set_option linter.all false
set_option maxRecDepth 100000
set_option maxHeartbeats 4000000
namespace RT
open PySem PySem.Spec PyProof.Rows L2
/-! ### what the model knows of reversed, and of a tuple under it -/
theorem ownerR : Manifest.owners.lookup (String.ofList ['d', 'e', 's', 'r', 'e', 'v', 'e', 'r'].reverse) = some Manifest.sig_reversed := by kernel_rfl
theorem nextR : Slot "reversed" "__next__" "reversed.__next__" :=
  Slot.of (owner := "reversed") (n := "__next__") (by rw [typeLookup_type, builtinLookup_eq_fast]; kernel_rfl) (by decide +kernel) (by decide +kernel) (by decide +kernel)
    (by first | exact Or.inl (by decide +kernel) | exact Or.inr (by decide +kernel)) (by rw [isSubtype_type]; kernel_rfl)
theorem iterR : Slot "reversed" "__iter__" "reversed.__iter__" :=
  Slot.of (owner := "reversed") (n := "__iter__") (by rw [typeLookup_type, builtinLookup_eq_fast]; kernel_rfl) (by decide +kernel) (by decide +kernel) (by decide +kernel)
    (by first | exact Or.inl (by decide +kernel) | exact Or.inr (by decide +kernel)) (by rw [isSubtype_type]; kernel_rfl)
theorem initR : Slot "reversed" "__init__" "object.__init__" :=
  Slot.of (owner := "object") (n := "__init__") (by rw [typeLookup_type, builtinLookup_eq_fast]; kernel_rfl) (by decide +kernel) (by decide +kernel) (by decide +kernel)
    (by first | exact Or.inl (by decide +kernel) | exact Or.inr (by decide +kernel)) (by rw [isSubtype_type]; kernel_rfl)
theorem entry_nextR : entryFor table "reversed.__next__" = some Builtin.«reversed.__next__» := entryFor_of_tree (by kernel_rfl)
theorem entry_iterR : entryFor table "reversed.__iter__" = some Builtin.«dict_keyiterator.__iter__» :=
  entryFor_alias (id' := "dict_keyiterator.__iter__") (by kernel_rfl) (by first | rfl | decide +kernel | (unfold String.splitOn; simp +decide [String.splitOnAux])) (by decide +kernel) (by kernel_rfl)
theorem args_nextR (a : Value) : argsOk "reversed.__next__" ⟨[a], []⟩ := by
  unfold argsOk
  rw [signature?_of (id := "reversed.__next__") (n := ['_', '_', 't', 'x', 'e', 'n', '_', '_']) (o := ['d', 'e', 's', 'r', 'e', 'v', 'e', 'r']) (by kernel_rfl) ownerR]
  kernel_rfl
theorem args_iterR (a : Value) : argsOk "reversed.__iter__" ⟨[a], []⟩ := by
  unfold argsOk
  rw [signature?_of (id := "reversed.__iter__") (n := ['_', '_', 'r', 'e', 't', 'i', '_', '_']) (o := ['d', 'e', 's', 'r', 'e', 'v', 'e', 'r']) (by kernel_rfl) ownerR]
  kernel_rfl
theorem calledR : TypeCalled "reversed" "reversed.__new__" "object.__init__" :=
  ⟨by decide +kernel, by decide +kernel, ⟨_, _, F.mro_reversed⟩, F.made_reversed, by decide +kernel, by rw [isSubtype_type]; kernel_rfl, initR⟩
theorem tup_norev : typeLookup (.type "tuple") "__reversed__" = pure none := by rw [typeLookup_type, builtinLookup_eq_fast]; kernel_rfl
theorem tup_nodict : isSubtype (.type "tuple") (.type "dict") = pure false := by rw [isSubtype_type]; kernel_rfl
/-! ### the iterator's object: the tuple, the place -/
def rtObj (t : Addr) (i : Int) : Obj := { cls := .type "reversed", data := .fields #[.ref t, rawInt i] }
abbrev IsRT (h : Heap) (a t : Addr) (i : Int) : Prop := h.get? a = some { cls := .type "reversed", dict := none, data := .fields #[.ref t, rawInt i], slots := #[] }
theorem rt_type {s : Shared} {a t : Addr} {i : Int} (x : IsRT s.heap a t i) : s.TypeIs (.ref a) "reversed" := ⟨_, x, rfl⟩
theorem new_meets (t : Addr) (items : Array Value) (hfit : (items.size : Int) < 2 ^ 63) :
    Meets (Builtin.«reversed.__new__» ⟨[.type "reversed", .ref t], []⟩) (fun _ R s => IsTup s.heap t items ∧
      R (.ok (.ret (.ref s.heap.objs.size))) { s with heap := s.heap.push (rtObj t ((items.size : Int) - 1)), toks := s.toks + 1 + 1 }) :=
  .of_wp fun prog w A R s h => by
    obtain ⟨ht, h⟩ := h
    unfold Builtin.«reversed.__new__»
    refine wpAny_bind (wpAny_of_eq (newClass_reversed _) ?_)
    try dsimp only
    refine wpAny_bind (wpAny_of_eq (a := ()) (by first | rfl | kernel_rfl) ?_)
    refine wpAny_bind (wpAny_of_eq (a := ()) (by first | rfl | kernel_rfl) ?_)
    try dsimp only
    refine wpAny_bind (wpAny_specialOf ht.typeIs tup_norev ?_)
    try dsimp only
    refine wpAny_bind ?_
    show wpAny _ _ (isInstance (.ref t) (.type "dict") >>= _) _ _ _
    refine wpAny_bind (wpAny_isInstance ht.typeIs tup_nodict ?_)
    show wpAny _ _ (specialOf (.ref t) "__getitem__" >>= _) _ _ _
    refine wpAny_bind (wpAny_specialOf ht.typeIs slot_tuple_getitem.lookup ?_)
    show wpAny _ _ (if _ then _ else _) _ _ _
    rw [if_pos (by decide)]
    refine wpAny_pure ?_
    show wpAny _ _ (call (.builtin "len") [.ref t] >>= _) _ _ _
    refine wpAny_bind (len_tuple ht hfit ?_)
    refine wpAny_bind (wpAny_of_eq (a := some (items.size : Int)) rfl ?_)
    show wpAny _ _ (Builtin.SmallTypes.newRecord (.type "reversed") [.ref t, rawInt ((items.size : Int) - 1)] >>= _) _ _ _
    refine wpAny_bind ?_
    unfold Builtin.SmallTypes.newRecord
    exact wpAny_newObj_type (wpAny_pure ⟨_, rfl, h⟩)
section
variable {prog : Program} {w : World} {A : Around} {E : Value → Shared → Prop} {s : Shared}
theorem call_new {t : Addr} {items : Array Value} {Q : Value → Shared → Prop} (ht : IsTup s.heap t items) (hfit : (items.size : Int) < 2 ^ 63)
    (h : Q (.ref s.heap.objs.size) { s with heap := s.heap.push (rtObj t ((items.size : Int) - 1)), toks := s.toks + 1 + 1 }) : wpAny (model prog w) A (call (.type "reversed") [.ref t]) Q E s :=
  callType_new calledR (by decide) (F.typeCall_reversed_1 _) (F.newCall_reversed_1 _) (fun obj => F.args_object_init_2 obj _) F.entry_reversed_new (new_meets t items hfit) ⟨ht, ⟨_, Heap.get?_push_size _ rfl, rfl⟩, h⟩
theorem iter_self {it t : Addr} {i : Int} {Q : Value → Shared → Prop} (hit : IsRT s.heap it t i) (h : Q (.ref it) s) : wpAny (model prog w) A (pyIter (.ref it)) Q E s := by
  refine wpAny_pyIter_slot (rt_type hit) iterR (wpAny_call_entry iterR (rt_type hit) entry_iterR ?_ (args_iterR _))
  show wpAny _ _ (ret (.ref it)) _ _ s
  exact wpAny_pure ⟨_, rfl, "reversed", _, (rt_type hit), nextR.lookup, h⟩
theorem next_item {it t : Addr} {i : Nat} {items : Array Value} {x : Value} {Q : Option Value → Shared → Prop} (hit : IsRT s.heap it t (i : Int)) (ht : IsTup s.heap t items) (hz : (items.size : Int) < 2 ^ 63) (hx : items[i]? = some x)
    (hQ : ∀ h' tk, IsRT h' it t ((i : Int) - 1) → Heap.SameBut it s.heap h' → Q (some x) { s with heap := h', toks := tk }) : wpAny (model prog w) A (pyNext (.ref it)) Q E s := by
  have hi : i < items.size := (Array.getElem?_eq_some_iff.mp hx).1
  unfold pyNext
  refine wpAny_bind (wpAny_attempt (wpAny_callSpecial?_slot (name := Str.ofString "__next__") (rt_type hit) nextR (wpAny_call_entry nextR (rt_type hit) entry_nextR ?_ (args_nextR _))))
  show wpAny _ _ (field (.ref it) 0 >>= _) _ _ s
  refine wpAny_bind (wpAny_field hit rfl (x := .ref t) rfl ?_)
  show wpAny _ _ (field (.ref it) 1 >>= _) _ _ s
  refine wpAny_bind (wpAny_field hit rfl (x := rawInt (i : Int)) rfl ?_)
  show wpAny _ _ (if (i : Int) < 0 then _ else _) _ _ s
  rw [if_neg (by omega)]
  show wpAny _ _ (specialOf (.ref t) "__getitem__" >>= _) _ _ s
  refine wpAny_bind (wpAny_specialOf ht.typeIs slot_tuple_getitem.lookup ?_)
  rw [if_neg (by decide)]
  show wpAny _ _ (mkInt (i : Int) >>= _) _ _ s
  refine wpAny_bind (wpAny_mkInt ?_)
  refine wpAny_bind (wpAny_attempt (getItem_tuple (j := i) (x := x) ht (by omega) (by omega) (seqIndex_of (by omega) (by omega)) hx ?_))
  show wpAny _ _ (field (.ref it) 1 >>= _) _ _ _
  refine wpAny_bind (wpAny_field hit rfl (x := rawInt (i : Int)) rfl ?_)
  show wpAny _ _ (setField (.ref it) 1 (rawInt ((i : Int) - 1)) >>= _) _ _ _
  refine wpAny_bind (wpAny_setField_rec hit (by simp) fun h' z1 e1 => ?_)
  exact wpAny_pure ⟨x, rfl, wpAny_pure (hQ h' _ z1 e1)⟩
theorem next_end {it t : Addr} {Q : Option Value → Shared → Prop} (hh : A.handled = none) (hit : IsRT s.heap it t (-1))
    (hQ : ∀ h', Heap.ExtBut it s.heap h' → Q none { s with heap := h' }) : wpAny (model prog w) A (pyNext (.ref it)) Q E s := by
  unfold pyNext
  refine wpAny_bind (wpAny_attempt (wpAny_callSpecial?_slot (name := Str.ofString "__next__") (rt_type hit) nextR (wpAny_call_entry nextR (rt_type hit) entry_nextR ?_ (args_nextR _))))
  show wpAny _ _ (field (.ref it) 0 >>= _) _ _ s
  refine wpAny_bind (wpAny_field hit rfl (x := .ref t) rfl ?_)
  show wpAny _ _ (field (.ref it) 1 >>= _) _ _ s
  refine wpAny_bind (wpAny_field hit rfl (x := rawInt (-1)) rfl ?_)
  show wpAny _ _ (if (-1 : Int) < 0 then _ else _) _ _ s
  rw [if_pos (by decide)]
  refine wpAny_bind (wpAny_rule ?_)
  refine wpAny_bind ?_
  show wpAny _ _ (setField (.ref it) 1 (rawInt (-1)) >>= _) _ _ _
  refine wpAny_bind (wpAny_setField_rec hit (by simp) fun h1 z1 e1 => ?_)
  refine wpAny_setField_rec z1 (by simp) fun h2 z2 e2 => ?_
  refine wpAny_bind (ZS.stop_raises hh fun h' e k he => ?_)
  obtain ⟨o2, ho2, hc2⟩ := he
  refine wpAny_bind (wpAny_isInstance (T := "StopIteration") (b := true) ⟨o2, ho2, hc2⟩ isSubtype_stop ?_)
  exact wpAny_pure (hQ _ fun b ob hb eb => k b ob (e2.extBut _ _ hb (e1.extBut _ _ hb eb)))
end
/-! ### reversed(list), reversed(tuple) -/
/-- the tuple at a (n items), from its end -/
def Itw (K : PySem.W.Frag) (a : Addr) (n : Nat) : It :=
  ⟨fun i H => i < n ∧ ∃ (xs : List V) (x : V), SqT K H a xs ∧ xs[n - 1 - i]? = some x, fun i H x H' => H' = H ∧ ∀ xs, SqT K H a xs → xs[n - 1 - i]? = some x, fun i _ => n ≤ i⟩
theorem turn_revT {P : Program} {w : World} {K : PySem.W.Frag} {tg : Expr} (a it : Addr) (n : Nat) : Turn P w K tg (Itw K a n) [it] it (fun i h => i ≤ n ∧ IsRT h it a ((n : Int) - 1 - (i : Nat))) where
  mem := by simp
  obj := fun i h st b hb => by
    have e : b = it := by simpa using hb
    subst e
    exact ⟨_, st.2, fun v z => nomatch z⟩
  keep := fun i h h' st k => ⟨st.1, k it (by simp) _ st.2⟩
  item := by
    intro X hP hw hK hc i pins s σ H E I hf st hg
    subst hP hw hK
    obtain ⟨hin, xs, x, hq, hx⟩ := hg
    obtain ⟨its, rv, p, hz⟩ := I.tuple hq
    obtain ⟨u, hu, ru⟩ := rv.get hx
    obtain ⟨f0, f1, f2, f3, f4, f5⟩ := hf it (by simp)
    obtain ⟨_, hit⟩ := st
    have hl := rv.length
    have hsl : sizeLine = 16777216 := sizeLine_eq
    have e1 : (n : Int) - 1 - ((i : Nat) : Int) = ((n - 1 - i : Nat) : Int) := by omega
    rw [e1] at hit
    refine next_item hit p (by rw [List.size_toArray]; omega) (x := u) (by simpa using hu) fun h' tk st' sb => ?_
    have e2 : ((n - 1 - i : Nat) : Int) - 1 = (n : Int) - 1 - ((i + 1 : Nat) : Int) := by omega
    rw [e2] at st'
    have I1 : Inv X pins σ H { s with heap := h', toks := tk } := I.turned (t' := tk) (fun b o hb e => (sb.2 b hb).trans e) f0 f1 f3 f4 f5
    exact ⟨u, rfl, go_of (s := { s with heap := h', toks := tk }) st' rfl rfl (by decide) ⟨x, H, I1, ru, ⟨rfl, fun ys hy => by rw [I.tuple_inj hy hq]; exact hx⟩, ⟨hin, st'⟩, fun b hb => (hf b hb).1⟩⟩
  done := by
    intro X hP hw hK hc i pins s σ H E I hf st hg
    subst hP hw hK
    obtain ⟨f0, f1, f2, f3, f4, f5⟩ := hf it (by simp)
    obtain ⟨hin, hit⟩ := st
    have hge : n ≤ i := hg
    have e1 : (n : Int) - 1 - ((i : Nat) : Int) = -1 := by omega
    rw [e1] at hit
    exact next_end (I.ok.hd hc) hit fun h' eb => ⟨rfl, I.turned (t' := s.toks) (fun b o hb e => eb b o hb e) f0 f1 f3 f4 f5⟩
  self := fun A i s Q E st h => iter_self st.2 h
def iRevB (K : PySem.W.Frag) (ta : TA) : TI := fun σ H R => ta σ H fun vs H1 => ∃ (a : Addr) (xs : List V), vs = [.ref a] ∧ ((SqL K H1 a xs ∧ R (Itv K a xs.length) H1) ∨ (SqT K H1 a xs ∧ R (Itw K a xs.length) H1))
theorem pi_reversedB {X : Cx} {tg e : Expr} {ta : TA} {p pos : Pos} (hg : Gl X "reversed") (hm : X.mg "reversed" = none) (ha : PA X [e] ta) (hs : starEach [e] X.env = [(false, eval e X.env)] := by rfl) : PI X tg (.Call (.Name "reversed" p) [e] [] pos) (iRevB X.K ta) := by
  intro pins s σ H R I h
  refine Call_ (ld_blt I hg hm boot_reversed5 (PyProof.Rows.callWith_type1 (thn (ha pos pins s σ H _ I h) fun us s1 ⟨vs, H1, I1, r1, q1⟩ => ?_) hs rfl))
  obtain ⟨a, xs, e, q⟩ := q1
  subst e
  have hsl : sizeLine = 16777216 := sizeLine_eq
  cases r1 with
  | cons r rr =>
    cases rr
    cases r
    rcases q with ⟨hq, q⟩ | ⟨hq, q⟩
    · obtain ⟨its, rv, p', hz⟩ := I1.list hq
      have hl := rv.length
      have e1 : ((its.toArray.size : Nat) : Int) - 1 = (xs.length : Int) - 1 - ((0 : Nat) : Int) := by rw [List.size_toArray]; omega
      refine call_reversed_list p'.isList (wpAny_pyIter_revIter (l := a) (i := ((its.toArray.size : Nat) : Int) - 1) ⟨_, Heap.get?_push_size _ rfl, rfl, rfl⟩ ?_)
      refine pi_one (tk := s1.toks) I1 _ (turn_rev a _ xs.length) ⟨Nat.zero_le _, ?_⟩ q
      rw [← e1]
      exact ⟨_, Heap.get?_push_size _ rfl, rfl, rfl⟩
    · obtain ⟨its, rv, p', hz⟩ := I1.tuple hq
      have hl := rv.length
      have e1 : ((its.toArray.size : Nat) : Int) - 1 = (xs.length : Int) - 1 - ((0 : Nat) : Int) := by rw [List.size_toArray]; omega
      refine call_new p' (by rw [List.size_toArray]; omega) (iter_self (t := a) (i := ((its.toArray.size : Nat) : Int) - 1) (Heap.get?_push_size _ rfl) ?_)
      refine pi_one (tk := s1.toks + 1 + 1) I1 _ (turn_revT a _ xs.length) ⟨Nat.zero_le _, ?_⟩ q
      rw [← e1]
      exact Heap.get?_push_size _ rfl
theorem for_revT {K : PySem.W.Frag} {a : Addr} {xs : List V} {g : TG} {tb : TS} {D : Ends} {σ : L2.St} {H : Hp} (Pv : Nat → L2.St → Hp → Prop) (h0 : Pv 0 σ H) (hl : ∀ i σ H, i ≤ xs.length → Pv i σ H → SqT K H a xs)
    (hs : ∀ i x σ H, i < xs.length → xs[xs.length - 1 - i]? = some x → Pv i σ H → g x σ H fun σ2 H2 => tb { D with nx := Pv (i + 1), ct := Pv (i + 1), bk := D.nx } σ2 H2) (hd : ∀ σ H, Pv xs.length σ H → D.nx σ H) :
    ∃ W : Nat → Nat → L2.St → Hp → Prop, (∃ m, W 0 m σ H) ∧ ∀ i m σ H, W i m σ H →
      ((Itw K a xs.length).stop i H ∧ D.nx σ H) ∨ ((Itw K a xs.length).go i H ∧ ∃ N : L2.St → Hp → Prop, (∀ σ' H', N σ' H' → ∃ m', m' < m ∧ W (i + 1) m' σ' H') ∧ ∀ x H', (Itw K a xs.length).yld i H x H' → g x σ H' fun σ2 H2 => tb { D with nx := N, ct := N, bk := D.nx } σ2 H2) := by
  refine ⟨fun i m σ H => m = xs.length - i ∧ i ≤ xs.length ∧ Pv i σ H, ⟨xs.length, by simp, Nat.zero_le _, h0⟩, ?_⟩
  rintro i m σ H ⟨rfl, hi, p⟩
  have q := hl i σ H hi p
  by_cases hlt : i < xs.length
  · have hx : xs[xs.length - 1 - i]? = some (xs[xs.length - 1 - i]'(by omega)) := List.getElem?_eq_getElem (by omega)
    refine .inr ⟨⟨hlt, xs, _, q, hx⟩, Pv (i + 1), fun σ' H' p' => ⟨xs.length - (i + 1), by omega, rfl, hlt, p'⟩, fun x H' y => ?_⟩
    obtain ⟨e, y⟩ := y
    subst e
    exact hs i x σ _ hlt (y xs q) p
  · have e : i = xs.length := by omega
    subst e
    exact .inl ⟨Nat.le_refl _, hd σ H p⟩
/-! ### for (i, x) in enumerate(list) -/
theorem for_enum {K : PySem.W.Frag} {a : Addr} {xs : List V} {g : TG} {tb : TS} {D : Ends} {σ : L2.St} {H : Hp} (Pv : Nat → L2.St → Hp → Prop) (h0 : Pv 0 σ H) (hl : ∀ i σ H, i ≤ xs.length → Pv i σ H → SqL K H a xs)
    (hs : ∀ i x T σ H, xs[i]? = some x → H T = none → Pv i σ H → g (.ref T) σ (upd H T (.tup [.int (i : Nat), x])) fun σ2 H2 => tb { D with nx := Pv (i + 1), ct := Pv (i + 1), bk := D.nx } σ2 H2) (hd : ∀ σ H, Pv xs.length σ H → D.nx σ H) :
    ∃ W : Nat → Nat → L2.St → Hp → Prop, (∃ m, W 0 m σ H) ∧ ∀ i m σ H, W i m σ H →
      ((Ite K a).stop i H ∧ D.nx σ H) ∨ ((Ite K a).go i H ∧ ∃ N : L2.St → Hp → Prop, (∀ σ' H', N σ' H' → ∃ m', m' < m ∧ W (i + 1) m' σ' H') ∧ ∀ x H', (Ite K a).yld i H x H' → g x σ H' fun σ2 H2 => tb { D with nx := N, ct := N, bk := D.nx } σ2 H2) := by
  refine ⟨fun i m σ H => m = xs.length - i ∧ i ≤ xs.length ∧ Pv i σ H, ⟨xs.length, by simp, Nat.zero_le _, h0⟩, ?_⟩
  rintro i m σ H ⟨rfl, hi, p⟩
  have q := hl i σ H hi p
  by_cases hlt : i < xs.length
  · refine .inr ⟨⟨xs, xs[i], q, List.getElem?_eq_getElem hlt⟩, Pv (i + 1), fun σ' H' p' => ⟨xs.length - (i + 1), by omega, rfl, hlt, p'⟩, fun v H' y => ?_⟩
    obtain ⟨T, x, rfl, hT, rfl, e1⟩ := y
    exact hs i x T σ H (e1 xs q) hT p
  · have e : i = xs.length := by omega
    subst e
    exact .inl ⟨⟨xs, q, Nat.le_refl _⟩, hd σ H p⟩
/-! ### list.extend(tuple) -/
theorem ext_meets (l : Addr) (items : Array Value) (n : Nat) (b : Addr) (items2 : Array Value) (n2 : Nat) (dd : Option Addr) (sl : Array (Option Value)) (hz : items.size + items2.size ≤ sizeLine) :
    Meets (Builtin.«list.extend» ⟨[.ref l, .ref b], []⟩) (fun _ R s => s.heap.get? l = some { cls := .type "list", data := .seq items n } ∧ s.heap.get? b = some { cls := .type "tuple", dict := dd, data := .seq items2 n2, slots := sl } ∧
      R (.ok (.ret Value.none)) { s with heap := s.heap.update l (Obj.mapSeq fun x => x ++ items2) }) :=
  .of_wp fun prog w A R s h => by
    obtain ⟨hp, g, d, tk, os⟩ := s
    obtain ⟨hl, hb, h⟩ := h
    have f3 := AutoSeq1.sub_list_list
    have f4 := AutoSeq1.sub_tuple_list
    have f5 := AutoSeq1.sub_tuple_tuple
    have f6 := AutoSeq1.sub_list_tuple
    have h1 : items.size ≤ sizeLine := by omega
    have h2 : (items ++ items2).size ≤ sizeLine + 1 := by rw [Array.size_append]; omega
    have h3 : ¬ (!items.isEmpty && Builtin.List.listTooLong (items.size + items2.size)) = true := by
      rw [notLongL hz, Bool.and_false]
      exact Bool.false_ne_true
    wp_walk using (wpAny_updateSeq hl rfl (hz := h1) (_hz' := h2)), AutoSeq1.wpAny_loadPart' hl, AutoSeq1.wpAny_loadPart' hb
    exact ⟨_, rfl, h⟩
section
variable {X : Cx}
def rExtT (K : PySem.W.Frag) : V → List V → Hp → VK → Prop := fun x vs H Q => ∃ l b xs zs, x = .ref l ∧ vs = [.ref b] ∧ H l = some (.lst xs) ∧ SqT K H b zs ∧ xs.length + zs.length ≤ sizeLine ∧ Q .non (upd H l (.lst (xs ++ zs)))
theorem mt_extendT : MtM X "list.extend" (rExtT X.K) := by
  intro pins s σ H x vs v us Q I rx rv h
  obtain ⟨l, b, xs, zs, rfl, rfl, hH, hB, hz, q⟩ := h
  cases rx
  obtain ⟨u, rfl, ru⟩ := rv.one
  cases ru
  obtain ⟨z, its, n, r, hl, e⟩ := I.lstM hH
  obtain ⟨its2, r2, p2, z2⟩ := I.tuple hB
  obtain ⟨⟨cls, dd, data, sl⟩, ho, hc, n2, hd⟩ := id p2
  simp only at hc hd
  subst hc hd
  have hl2 := r2.length
  refine call_meets F.slot_list_extend ⟨_, e, rfl⟩ F.entry_list_extend (F.args_list_extend_2 _ _) (ext_meets l its.toArray n b its2.toArray n2 dd sl (by rw [List.size_toArray, List.size_toArray]; omega)) ⟨e, ho, ?_⟩
  refine ⟨.non, _, I.lset (its' := its ++ its2) hH e (by simp) (r.append r2) ?_, rfl, q⟩
  rw [List.length_append]
  omega
end
end RT
end
section
set_option Elab.async false
set_option linter.all false
set_option maxRecDepth 100000
set_option maxHeartbeats 4000000
namespace WP
open PySem PySem.Spec PyProof.Rows L2 WW
def top (i : Nat) : Stmt := PySem.Challenge.pw_watchedwindow_s01_answers.main.body.getD i (.Pass ⟨0, 0, 0, 0⟩)
abbrev sSlot : Stmt := top 23
abbrev sNum : Stmt := top 24
abbrev sWb : Stmt := top 25
abbrev sFil : Stmt := top 26
abbrev sTurn : Stmt := top 27
abbrev sChk : Stmt := top 28
abbrev sWin : Stmt := top 29
abbrev sRdr : Stmt := top 30
abbrev sNext : Stmt := top 31
abbrev sIn : Stmt := top 32
abbrev sAns : Stmt := top 33
/-- what the module's names hold -/
structure Glo (mg : Str → Option Value) : Prop where
  slots : ∃ t, mg "SLOTS" = some (.int 64 t)
  slotBytes : ∃ t, mg "SLOT_BYTES" = some (.int 64 t)
  slotWords : ∃ t, mg "SLOT_WORDS" = some (.int 8 t)
  wordBytes : ∃ t, mg "WORD_BYTES" = some (.int 8 t)
  limit : ∃ t, mg "WORD_LIMIT" = some (.int 18446744073709551616 t)
  bell : ∃ t, mg "BELL_PLACE" = some (.int 4096 t)
  count : ∃ t, mg "COUNT_PLACE" = some (.int 4104 t)
  spare : ∃ t, mg "SPARE_PLACE" = some (.int 4112 t)
  spareBytes : ∃ t, mg "SPARE_BYTES" = some (.int 48 t)
  windowBytes : ∃ t, mg "WINDOW_BYTES" = some (.int 4160 t)
  begin_ : ∃ t, mg "BEGIN" = some (.int 0 t)
  send : ∃ t, mg "SEND" = some (.int 1 t)
  patch : ∃ t, mg "PATCH" = some (.int 2 t)
  fill : ∃ t, mg "FILL" = some (.int 3 t)
  move : ∃ t, mg "MOVE" = some (.int 4 t)
  swap : ∃ t, mg "SWAP" = some (.int 5 t)
  take : ∃ t, mg "TAKE" = some (.int 6 t)
  rings : ∃ t, mg "BELL" = some (.int 7 t)
  told : ∃ t, mg "TOLD" = some (.int 8 t)
  done : ∃ t, mg "DONE" = some (.int 0 t)
  refused : ∃ t, mg "REFUSED" = some (.int (-1) t)
  range : mg "range" = none
  len : mg "len" = none
  tuple : mg "tuple" = none
  reversed : mg "reversed" = none
  zip : mg "zip" = none
  list : mg "list" = none
  enumerate : mg "enumerate" = none
section
variable {P : Program} {w : World} {K : PySem.W.Frag} {mg : Str → Option Value} {base : Heap}
/-! ### is_slot -/
def spSlot : Sp := fun vs H Q _ => ∃ z : Int, vs = [.int z] ∧ Q (.bl (decide (0 ≤ z ∧ z < 64))) H
theorem scSlot : FnScope ["slot"] ["slot"] (defScope sSlot) := ⟨rfl, rfl, rfl, by decide +kernel, rfl, by decide +kernel, by decide +kernel⟩
theorem ok_slot {f : Addr} {fd : FuncData} (F : Fun K "is_slot" "is_slot" sSlot f fd) (T : Glo mg) : FnOk P w K mg base CX0 1 f fd ["slot"] spSlot := by
  refine F.ok scSlot (fun vs H Q E h => ?_) (fun cdv A outer s H vs Q E hr h => ?_)
  · obtain ⟨z, rfl, _⟩ := h
    rfl
  · obtain ⟨z, rfl, q⟩ := h
    refine ⟨_, pss_one (ps_ret (pe_chain op_le op_lt pe_int (pv 0) (pgl T.slots))), ?_⟩
    refine ⟨_, rfl, _, _, rfl, rfl, _, rfl, ite2 (fun h => ?_) (fun h => ?_)⟩
    · refine ⟨_, _, rfl, rfl, ?_⟩
      have e : (decide (z < 64)) = decide (0 ≤ z ∧ z < 64) := by
        have h := of_decide_eq_true h
        by_cases h2 : z < 64 <;> simp [h, h2]
      rw [← e] at q
      exact q
    · have e : false = decide (0 ≤ z ∧ z < 64) := by
        have h2 : ¬ 0 ≤ z := fun h2 => h (decide_eq_true h2)
        simp [h2]
      rw [← e] at q
      exact q
/-! ### number_from -/
theorem val_drop {c : List Int} {i : Nat} {x : Int} (hi : i < c.length) (h : c[c.length - 1 - i]? = some x) : val (c.drop (c.length - (i + 1))) = val (c.drop (c.length - i)) * 256 + x := by
  obtain ⟨h1, e⟩ := List.getElem?_eq_some_iff.mp h
  have e1 : c.length - (i + 1) = c.length - 1 - i := by omega
  have e2 : c.length - i = c.length - 1 - i + 1 := by omega
  rw [e1, e2, List.drop_eq_getElem_cons h1, e]
  show x + 256 * val (c.drop (c.length - 1 - i + 1)) = _
  omega
def spNum (K : PySem.W.Frag) : Sp := fun vs H Q _ => ∃ (l : Addr) (c : List Int), vs = [.ref l] ∧ (SqL K H l (c.map V.int) ∨ SqT K H l (c.map V.int)) ∧ Q (.int (val c)) H
theorem scNum : FnScope ["content", "number", "byte"] ["content"] (defScope sNum) := ⟨rfl, rfl, rfl, by decide +kernel, rfl, by decide +kernel, by decide +kernel⟩
theorem map_back {c : List Int} {i : Nat} {y : V} (h : (c.map V.int)[(c.map V.int).length - 1 - i]? = some y) : ∃ z, c[c.length - 1 - i]? = some z ∧ y = V.int z := by
  rw [List.length_map, List.getElem?_map] at h
  cases e : c[c.length - 1 - i]? with
  | none => rw [e] at h; cases h
  | some z => rw [e] at h; exact ⟨z, rfl, (Option.some.inj h).symm⟩
theorem ok_num {f : Addr} {fd : FuncData} (F : Fun K "number_from" "number_from" sNum f fd) (T : Glo mg) : FnOk P w K mg base CX0 1 f fd ["content"] (spNum K) := by
  refine F.ok scNum (fun vs H Q E h => ?_) (fun cdv A outer s H vs Q E hr h => ?_)
  · obtain ⟨l, c, rfl, _⟩ := h
    rfl
  · obtain ⟨l, c, rfl, hS, q⟩ := h
    refine ⟨_, pss_cons (ps_set (i := 1) scNum.nd rfl (Or.inl rfl) pe_int)
      (pss_cons (ps_for PassesOwn.never rfl (RT.pi_reversedB rfl T.reversed (pa_cons (pv 0) pa_nil)) (pg_name (i := 2) scNum.nd rfl (Or.inl rfl))
        (pss_one (ps_set (i := 1) scNum.nd rfl (Or.inl rfl) (pe_op op_add (pe_op op_mul (pv 1) pe_int) (pv 2)))))
      (pss_one (ps_ret (pv 1)))), ?_⟩
    have h0 : val (c.drop (c.length - 0)) = 0 := by
      rw [Nat.sub_zero, List.drop_length]
      rfl
    rcases hS with hS | hS
    · refine ⟨_, rfl, l, _, rfl, .inl ⟨hS, for_rev (K := K) (a := l) (xs := c.map V.int) (fun i σ H' => ∃ v : Option V, σ = [some (.ref l), some (.int (val (c.drop (c.length - i)))), v] ∧ H' = H)
        ⟨none, by rw [h0]; rfl, rfl⟩ (fun i σ H' _ ⟨_, _, e⟩ => by rw [e]; exact hS) ?_ ?_⟩⟩
      · rintro i y σ H' hi hy ⟨v, rfl, rfl⟩
        obtain ⟨z, hz, rfl⟩ := map_back hy
        rw [List.length_map] at hi
        refine ⟨_, rfl, _, _, rfl, rfl, .inr ⟨by decide, by decide⟩, _, rfl, _, _, rfl, rfl, ?_⟩
        refine ⟨some (V.int z), ?_, rfl⟩
        rw [val_drop hi hz]
        rfl
      · rintro σ H' ⟨v, rfl, rfl⟩
        rw [List.length_map, Nat.sub_self, List.drop_zero]
        exact ⟨_, rfl, q⟩
    · refine ⟨_, rfl, l, _, rfl, .inr ⟨hS, RT.for_revT (K := K) (a := l) (xs := c.map V.int) (fun i σ H' => ∃ v : Option V, σ = [some (.ref l), some (.int (val (c.drop (c.length - i)))), v] ∧ H' = H)
        ⟨none, by rw [h0]; rfl, rfl⟩ (fun i σ H' _ ⟨_, _, e⟩ => by rw [e]; exact hS) ?_ ?_⟩⟩
      · rintro i y σ H' hi hy ⟨v, rfl, rfl⟩
        obtain ⟨z, hz, rfl⟩ := map_back hy
        rw [List.length_map] at hi
        refine ⟨_, rfl, _, _, rfl, rfl, .inr ⟨by decide, by decide⟩, _, rfl, _, _, rfl, rfl, ?_⟩
        refine ⟨some (V.int z), ?_, rfl⟩
        rw [val_drop hi hz]
        rfl
      · rintro σ H' ⟨v, rfl, rfl⟩
        rw [List.length_map, Nat.sub_self, List.drop_zero]
        exact ⟨_, rfl, q⟩
/-! ### word_bytes -/
theorem le8_at (z : Int) {i : Nat} (hi : i < 8) : (le8 z)[i]? = some (z / 256 ^ i % 256) := by
  unfold le8
  rw [List.getElem?_map, List.getElem?_range hi]
  rfl
theorem byte_at {z : Int} (h0 : 0 ≤ z) (i : Nat) : Builtin.bitAnd (z / 2 ^ (8 * ((0 : Int) + (i : Int))).toNat) 255 = z / 256 ^ i % 256 := by
  have e1 : (8 * ((0 : Int) + (i : Int))).toNat = 8 * i := by omega
  have e2 : (2 : Int) ^ (8 * i) = 256 ^ i := by
    rw [Int.pow_mul]
    rfl
  have h1 : (0 : Int) ≤ z / 256 ^ i := Int.ediv_nonneg h0 (Int.le_of_lt (Int.pow_pos (by decide)))
  rw [e1, e2]
  exact Bits.bitAnd_mask 8 h1
theorem take_succ' {α : Type} {l : List α} {i : Nat} {x : α} (h : l[i]? = some x) : l.take (i + 1) = l.take i ++ [x] := by
  rw [List.take_add_one, h]
  rfl
def spWb : Sp := fun vs H Q _ => ∃ z : Int, vs = [.int z] ∧ 0 ≤ z ∧ ∀ D : Addr, H D = none → Q (.ref D) (upd H D (.lst ((le8 z).map V.int)))
theorem scWb : FnScope ["word", "k"] ["word"] (defScope sWb) := ⟨rfl, rfl, rfl, by decide +kernel, rfl, by decide +kernel, by decide +kernel⟩
theorem ok_wb {f : Addr} {fd : FuncData} (F : Fun K "word_bytes" "word_bytes" sWb f fd) (T : Glo mg) : FnOk P w K mg base CX0 1 f fd ["word"] spWb := by
  refine F.ok scWb (fun vs H Q E h => ?_) (fun cdv A outer s H vs Q E hr h => ?_)
  · obtain ⟨z, rfl, _⟩ := h
    rfl
  · obtain ⟨z, rfl, h0, q⟩ := h
    refine ⟨_, pss_one (ps_ret (pe_lc (own := [("k", 1)]) rfl scWb.nd (pi_range1 rfl T.range (pa_cons (pgl T.wordBytes) pa_nil)) (blkOk_by (by show blkC ["word", "k"] (defScope sWb) _ _ = true; decide +kernel))
      (fun _ _ _ _ _ => pg_name (i := 1) scWb.nd rfl (Or.inl rfl)) (fun _ _ _ _ _ => pts_nil)
      (fun _ _ _ _ _ => pe_op op_and (pe_op op_shr (pv 0) (pe_op op_mul pe_int (pv 1))) pe_int))), ?_⟩
    refine ⟨8, rfl, by decide, by decide, fun D hD => lc_range (lo := 0) (n := 8) (fun i H' => H' = upd H D (.lst (((le8 z).take i).map V.int))) rfl ?_ ?_⟩
    · rintro i H' hi rfl
      refine ⟨rfl, tyes ?_⟩
      refine ⟨_, rfl, _, rfl, _, _, rfl, rfl, .inl ⟨by decide, by decide⟩, _, _, rfl, rfl, by omega, _, _, rfl, rfl, _, upd_same, ?_, ?_⟩
      · rw [List.length_map, List.length_take]
        exact Nat.lt_of_le_of_lt (Nat.min_le_left _ _) (by have : sizeLine = 16777216 := sizeLine_eq; omega)
      · rw [upd_upd, take_succ' (le8_at z hi), List.map_append, ← byte_at h0 i]
        rfl
    · rintro H' rfl
      rw [List.take_of_length_le (Nat.le_of_eq (le8_length z))]
      exact q D hD
end
end WP
end
section
set_option Elab.async false
set_option linter.all false
set_option maxRecDepth 100000
set_option maxHeartbeats 4000000
namespace WP
open PySem PySem.Spec PyProof.Rows L2 WW
section
variable {P : Program} {w : World} {K : PySem.W.Frag} {mg : Str → Option Value} {base : Heap}
theorem map_at {c : List Int} {i : Nat} {y : V} (h : (c.map V.int)[i]? = some y) : ∃ z, c[i]? = some z ∧ y = V.int z := by
  rw [List.getElem?_map] at h
  cases e : c[i]? with
  | none => rw [e] at h; cases h
  | some z => rw [e] at h; exact ⟨z, rfl, (Option.some.inj h).symm⟩
theorem small {n : Nat} (h : n ≤ 16000000) : n < sizeLine := by
  have : sizeLine = 16777216 := sizeLine_eq
  omega
/-! ### filled_slot -/
def fillFrom (x st first : Int) (n : Nat) : List Int := (List.range n).flatMap fun (j : Nat) => le8 ((x + st * (first + (j : Int))) % 18446744073709551616)
theorem fillFrom_succ (x st first : Int) (n : Nat) : fillFrom x st first (n + 1) = fillFrom x st first n ++ le8 ((x + st * (first + (n : Int))) % 18446744073709551616) := by
  unfold fillFrom
  rw [List.range_succ, List.flatMap_append]
  simp
theorem fillFrom_len (x st first : Int) : ∀ n : Nat, (fillFrom x st first n).length = 8 * n
  | 0 => rfl
  | n + 1 => by
    rw [fillFrom_succ, List.length_append, fillFrom_len x st first n, le8_length]
    omega
def spFil : Sp := fun vs H Q _ => ∃ x st first : Int, vs = [.int x, .int st, .int first] ∧ 0 ≤ st ∧ st < 18446744073709551616 ∧ 0 ≤ first ∧ first ≤ 1000000 ∧
  ∀ (H' : Hp) (t : Addr), Same H H' → H t = none → H' t = some (.tup ((fillFrom x st first 8).map V.int)) → Q (.ref t) H'
theorem scFil : FnScope ["x", "step", "first", "content", "k"] ["x", "step", "first"] (defScope sFil) := ⟨rfl, rfl, rfl, by decide +kernel, rfl, by decide +kernel, by decide +kernel⟩
theorem ok_fil {f fW : Addr} {fd fdW : FuncData} (F : Fun K "filled_slot" "filled_slot" sFil f fd) (T : Glo mg) (FW : Fun K "word_bytes" "word_bytes" sWb fW fdW) (bW : Binds K fdW ["word"] []) (mW : mg "word_bytes" = some (.ref fW)) : FnOk P w K mg base CX0 2 f fd ["x", "step", "first"] spFil := by
  have GW : FnOk P w K mg base CX0 1 fW fdW ["word"] spWb := ok_wb FW T
  refine F.ok scFil (fun vs H Q E h => ?_) (fun cdv A outer s H vs Q E hr h => ?_)
  · obtain ⟨x, st, first, rfl, _⟩ := h
    rfl
  · obtain ⟨x, st, first, rfl, s0, s1, f0, f1, q⟩ := h
    refine ⟨_, pss_cons (ps_set (i := 3) scFil.nd rfl (Or.inl rfl) (pe_lst pa_nil))
      (pss_cons (ps_for PassesOwn.never rfl (pi_range2 rfl T.range (pa_cons (pv 2) (pa_cons (pe_op op_add (pv 2) (pgl T.slotWords)) pa_nil))) (pg_name (i := 4) scFil.nd rfl (Or.inl rfl))
        (pss_one (ps_expr (pe_bm PySem.F.plainAttrs_list PySem.F.slot_list_extend PySem.F.type_list_extend mt_extend (pv 3)
          (pa_cons (pe_call GW hr rfl mW FW.kp bW .nil pass0 (pa_cons (pe_op op_mod (pe_op op_add (pv 0) (pe_op op_mul (pv 1) (pv 4))) (pgl T.limit)) pa_nil)) pa_nil)))))
      (pss_one (ps_ret (pe_callTy call_tuple_of rfl T.tuple boot_tuple (pa_cons (pv 3) pa_nil))))), ?_⟩
    refine ⟨Nat.zero_le _, fun l hl => ?_⟩
    have z1 : Same H (upd H l (.lst [])) := (Same.refl H).laid hl
    refine ⟨_, rfl, _, rfl, _, _, rfl, rfl, first, first + 8, rfl, ⟨by omega, by omega, by omega, by omega⟩, ?_⟩
    have en : (first + 8 - first).toNat = 8 := by omega
    rw [en]
    refine for_range (lo := first) (n := 8) (fun i σ H' => ∃ v : Option V, σ = [some (.int x), some (.int st), some (.int first), some (.ref l), v] ∧ Same H H' ∧ H' l = some (.lst ((fillFrom x st first i).map V.int)))
      ⟨none, rfl, z1, upd_same⟩ ?_ ?_
    · rintro i σ H' hi ⟨v, rfl, z2, hl2⟩
      refine ⟨_, rfl, .inl ⟨rfl, _, SqL.of hl2⟩, ?_⟩
      refine ⟨_, rfl, _, rfl, _, rfl, _, _, rfl, rfl, .inl ⟨by omega, by omega⟩, _, _, rfl, rfl, _, _, rfl, rfl, (by show (0 : Int) < 18446744073709551616; decide), ?_⟩
      refine ⟨_, rfl, Int.emod_nonneg _ (by decide), fun D hD => ?_⟩
      have nlD : l ≠ D := ne_of_none hl2 hD
      refine ⟨l, D, _, _, rfl, rfl, by rw [upd_ne nlD]; exact hl2, upd_same, ?_, ?_⟩
      · rw [List.length_map, List.length_map, fillFrom_len, le8_length]
        exact Nat.le_of_lt (small (by omega))
      · refine ⟨_, rfl, (z2.laid hD).own hl, ?_⟩
        rw [upd_same, ← List.map_append, ← fillFrom_succ]
    · rintro σ H' ⟨v, rfl, z2, hl2⟩
      refine ⟨_, rfl, l, _, rfl, .inl ⟨SqL.of hl2, fun t ht => ?_⟩⟩
      exact q _ t (z2.laid ht) (z2.free ht) upd_same
/-! ### Reader -/
def rdF (a : Addr) (k : Int) : List (Str × V) := [("calls", .ref a), ("place", .int k)]
/-- a Reader at q that stands at place k of the list at a -/
def RdAt (C : Addr) (H : Hp) (q a : Addr) (k : Nat) : Prop := ∃ dx, H q = some (.ins C dx (rdF a k))
/-- all but q -/
def But (q : Addr) (H H' : Hp) : Prop := ∀ b o, H b = some o → b ≠ q → H' b = some o
structure RTxt (K : PySem.W.Frag) (C : Addr) : Prop where
  cl : Cls K C
  nC : NoAttr K C "calls"
  nP : NoAttr K C "place"
abbrev sRInit : Stmt := inClass sRdr 0
abbrev sAtEnd : Stmt := inClass sRdr 1
abbrev sNumber : Stmt := inClass sRdr 2
abbrev sRow : Stmt := inClass sRdr 3
def spRInit (C : Addr) : Sp := fun vs H Q _ => ∃ (q dx a : Addr), vs = [.ref q, .ref a] ∧ H q = some (.ins C dx []) ∧ ∀ H' : Hp, RdAt C H' q a 0 → But q H H' → Q .non H'
theorem scRInit : FnScope ["self", "calls"] ["self", "calls"] (defScope sRInit) := ⟨rfl, rfl, rfl, by decide +kernel, rfl, by decide +kernel, by decide +kernel⟩
theorem ok_rinit {f C : Addr} {fd : FuncData} (F : Fun K "__init__" "Reader.__init__" sRInit f fd) (T : RTxt K C) : FnOk P w K mg base CX0 1 f fd ["self", "calls"] (spRInit C) := by
  refine F.ok scRInit (fun vs H Q E h => ?_) (fun cdv A outer s H vs Q E hr h => ?_)
  · obtain ⟨q, dx, a, rfl, _⟩ := h
    rfl
  · obtain ⟨p, dx, a, rfl, hp, k⟩ := h
    refine ⟨_, pss_cons (ps_fld (pv 0) (pv 1) rfl) (pss_one (ps_fld (pv 0) pe_int rfl)), ?_⟩
    refine ⟨_, rfl, _, rfl, p, C, dx, [], rfl, hp, T.cl, T.nC, (by show 0 < 1000; decide), ?_⟩
    refine ⟨_, rfl, p, C, dx, _, rfl, upd_same, T.cl, T.nP, (by show 1 < 1000; decide), ?_⟩
    rw [upd_upd]
    exact k _ ⟨dx, upd_same⟩ fun b o e hb => by rw [upd_ne hb]; exact e
def spAtEnd (K : PySem.W.Frag) (C : Addr) : Sp := fun vs H Q _ => ∃ (q a : Addr) (k : Nat) (ns : List Int), vs = [.ref q] ∧ RdAt C H q a k ∧ SqL K H a (ns.map V.int) ∧ Q (.bl (decide (k = ns.length))) H
theorem scAtEnd : FnScope ["self"] ["self"] (defScope sAtEnd) := ⟨rfl, rfl, rfl, by decide +kernel, rfl, by decide +kernel, by decide +kernel⟩
theorem ok_atEnd {f C : Addr} {fd : FuncData} (F : Fun K "at_end" "Reader.at_end" sAtEnd f fd) (T : RTxt K C) (G : Glo mg) : FnOk P w K mg base CX0 1 f fd ["self"] (spAtEnd K C) := by
  refine F.ok scAtEnd (fun vs H Q E h => ?_) (fun cdv A outer s H vs Q E hr h => ?_)
  · obtain ⟨q, a, k, ns, rfl, _⟩ := h
    rfl
  · obtain ⟨q, a, k, ns, rfl, ⟨dx, hq⟩, hS, z⟩ := h
    refine ⟨_, pss_one (ps_ret (pe_cmpR op_eq (pe_fld (pv 0) rfl) (pe_callB call_len_seq rfl G.len PySem.boot_len (pa_cons (pe_fld (pv 0) rfl) pa_nil)) (nomark _))), ?_⟩
    refine ⟨_, rfl, q, C, dx, _, _, rfl, hq, T.cl, T.nP, rfl, _, rfl, q, C, dx, _, _, rfl, hq, T.cl, T.nC, rfl, a, _, rfl, .inl hS, rfl, ?_⟩
    have e : decide ((V.int (k : Int)) = V.int ((ns.map V.int).length : Nat)) = decide (k = ns.length) := by
      rw [List.length_map]
      by_cases h : k = ns.length
      · subst h; simp
      · have h' : ¬ (V.int (k : Int)) = V.int (ns.length : Nat) := fun e => h (by injection e with e; omega)
        simp [h, h']
    rw [e]
    exact z
def spNumber (K : PySem.W.Frag) (C : Addr) : Sp := fun vs H Q _ => ∃ (q a : Addr) (k : Nat) (ns : List Int) (z : Int), vs = [.ref q] ∧ RdAt C H q a k ∧ SqL K H a (ns.map V.int) ∧ ns[k]? = some z ∧
  ∀ H' : Hp, RdAt C H' q a (k + 1) → But q H H' → Q (.int z) H'
theorem scNumber : FnScope ["self", "found"] ["self"] (defScope sNumber) := ⟨rfl, rfl, rfl, by decide +kernel, rfl, by decide +kernel, by decide +kernel⟩
theorem ok_number {f C : Addr} {fd : FuncData} (F : Fun K "number" "Reader.number" sNumber f fd) (T : RTxt K C) : FnOk P w K mg base CX0 1 f fd ["self"] (spNumber K C) := by
  refine F.ok scNumber (fun vs H Q E h => ?_) (fun cdv A outer s H vs Q E hr h => ?_)
  · obtain ⟨q, a, k, ns, z, rfl, _⟩ := h
    rfl
  · obtain ⟨q, a, k, ns, z, rfl, ⟨dx, hq⟩, hS, hz, y⟩ := h
    refine ⟨_, pss_cons (ps_set (i := 1) scNumber.nd rfl (Or.inl rfl) (pe_ix ix_list (pe_fld (pv 0) rfl) (pe_fld (pv 0) rfl) (fun _ _ => rfl)))
      (pss_cons (ps_fld (pv 0) (pe_op op_add (pe_fld (pv 0) rfl) pe_int) rfl) (pss_one (ps_ret (pv 1)))), ?_⟩
    refine ⟨_, rfl, q, C, dx, _, _, rfl, hq, T.cl, T.nC, rfl, _, rfl, q, C, dx, _, _, rfl, hq, T.cl, T.nP, rfl, a, _, _, _, rfl, rfl, hS, atI_nat (v := V.int z) (by rw [List.getElem?_map, hz]; rfl), ?_⟩
    refine ⟨_, rfl, q, C, dx, _, _, rfl, hq, T.cl, T.nP, rfl, _, _, rfl, rfl, _, rfl, q, C, dx, _, rfl, hq, T.cl, T.nP, (by show 2 < 1000; decide), ?_⟩
    refine ⟨_, rfl, ?_⟩
    exact y _ ⟨dx, Eq.trans upd_same rfl⟩ fun b o e hb => by rw [upd_ne hb]; exact e
theorem But.refl (q : Addr) (H : Hp) : But q H H := fun _ _ e _ => e
theorem But.trans {q : Addr} {H H1 H2 : Hp} (a : But q H H1) (b : But q H1 H2) : But q H H2 := fun c o e n => b c o (a c o e n) n
theorem But.seq {K : PySem.W.Frag} {q : Addr} {H H' : Hp} {a : Addr} {xs : List V} (e : But q H H') (n : ∀ o, H q = some o → ∃ C dx fs, o = .ins C dx fs) (h : SqL K H a xs) : SqL K H' a xs := by
  rcases h with (h | ⟨o, h⟩) | h
  · refine .inl (.inl (e _ _ h fun z => ?_))
    subst z
    obtain ⟨C, dx, fs, e2⟩ := n _ h
    cases e2
  · refine .inl (.inr ⟨o, e _ _ h fun z => ?_⟩)
    subst z
    obtain ⟨C, dx, fs, e2⟩ := n _ h
    cases e2
  · exact .inr h
theorem RdAt.ins {C : Addr} {H : Hp} {q a : Addr} {k : Nat} (h : RdAt C H q a k) : ∀ o, H q = some o → ∃ C dx fs, o = .ins C dx fs := fun o e => by
  obtain ⟨dx, h⟩ := h
  rw [h] at e
  cases e
  exact ⟨_, _, _, rfl⟩
def spRow (K : PySem.W.Frag) (C : Addr) : Sp := fun vs H Q _ => ∃ (q a : Addr) (k : Nat) (ns m rest : List Int), vs = [.ref q] ∧ RdAt C H q a k ∧ SqL K H a (ns.map V.int) ∧ ns.drop k = (m.length : Int) :: (m ++ rest) ∧ m.length ≤ 1000000 ∧
  ∀ (H' : Hp) (l : Addr), RdAt C H' q a (k + 1 + m.length) → But q H H' → H l = none → H' l = some (.lst (m.map V.int)) → Q (.ref l) H'
theorem scRow : FnScope ["self", "length", "found", "k"] ["self"] (defScope sRow) := ⟨rfl, rfl, rfl, by decide +kernel, rfl, by decide +kernel, by decide +kernel⟩
theorem ok_row {f fN C : Addr} {fd fdN : FuncData} (F : Fun K "row" "Reader.row" sRow f fd) (T : RTxt K C) (G : Glo mg) (FN : Fun K "number" "Reader.number" sNumber fN fdN) (bN : Binds K fdN ["self"] []) (mN : Meth K C "number" fN) :
    FnOk P w K mg base CX0 2 f fd ["self"] (spRow K C) := by
  have GN : FnOk P w K mg base CX0 1 fN fdN ["self"] (spNumber K C) := ok_number FN T
  refine F.ok scRow (fun vs H Q E h => ?_) (fun cdv A outer s H vs Q E hr h => ?_)
  · obtain ⟨q, a, k, ns, m, rest, rfl, _⟩ := h
    rfl
  · obtain ⟨q, a, k, ns, m, rest, rfl, hq, hS, hd, hm, y⟩ := h
    refine ⟨_, pss_cons (ps_set (i := 1) scRow.nd rfl (Or.inl rfl) (pe_meth0 (pv 0) T.cl mN GN hr bN .nil pass0))
      (pss_cons (ps_set (i := 2) scRow.nd rfl (Or.inl rfl) (pe_lst pa_nil))
      (pss_cons (ps_for PassesOwn.never rfl (pi_range1 rfl G.range (pa_cons (pv 1) pa_nil)) (pg_name (i := 3) scRow.nd rfl (Or.inl rfl))
        (pss_one (ps_expr (pe_bm PySem.F.plainAttrs_list PySem.F.slot_list_append PySem.F.type_list_append mt_append (pv 2) (pa_cons (pe_meth0 (pv 0) T.cl mN GN hr bN .nil pass0) pa_nil)))))
      (pss_one (ps_ret (pv 2))))), ?_⟩
    have at0 : ns[k]? = some (m.length : Int) := by
      have := congrArg (fun l => l[0]?) hd
      simpa using this
    have atS : ∀ i, i < m.length → ns[k + 1 + i]? = m[i]? := fun i hi => by
      have := congrArg (fun l => l[1 + i]?) hd
      simp only [List.getElem?_drop] at this
      rw [Nat.add_assoc, this, Nat.add_comm 1 i, List.getElem?_cons_succ, List.getElem?_append_left hi]
    obtain ⟨dx, hq0⟩ := id hq
    refine ⟨_, rfl, q, dx, _, rfl, hq0, rfl, q, a, k, ns, _, rfl, hq, hS, at0, fun H1 r1 b1 => ?_⟩
    refine ⟨Nat.zero_le _, fun l hl => ?_⟩
    refine ⟨_, rfl, _, rfl, by omega, by omega, ?_⟩
    have nl : H l = none := by
      cases e : H l with
      | none => rfl
      | some o =>
        by_cases hlq : l = q
        · subst hlq
          obtain ⟨dx1, r1'⟩ := r1
          rw [r1'] at hl
          cases hl
        · rw [b1 l o e hlq] at hl
          cases hl
    have nq : q ≠ l := fun e => by rw [e, nl] at hq0; cases hq0
    have b1' : But q H (upd H1 l (.lst [])) := fun b o e n => by
      rw [upd_ne (ne_of_none e nl)]
      exact b1 b o e n
    rw [Int.toNat_natCast]
    refine for_range (lo := 0) (n := m.length) (fun i σ H' => ∃ v : Option V, σ = [some (.ref q), some (.int (m.length : Int)), some (.ref l), v] ∧ But q H H' ∧ RdAt C H' q a (k + 1 + i) ∧ H' l = some (.lst ((m.take i).map V.int)))
      ⟨none, rfl, b1', ?_, upd_same⟩ ?_ ?_
    · obtain ⟨dx1, r1'⟩ := r1
      exact ⟨dx1, by rw [upd_ne nq]; exact r1'⟩
    · rintro i σ H' hi ⟨v, rfl, b2, r2, l2⟩
      obtain ⟨z, hz⟩ : ∃ z, m[i]? = some z := ⟨_, List.getElem?_eq_getElem hi⟩
      obtain ⟨dx2, r2'⟩ := id r2
      refine ⟨_, rfl, .inl ⟨rfl, _, SqL.of l2⟩, _, rfl, q, dx2, _, rfl, r2', rfl, q, a, k + 1 + i, ns, z, rfl, r2, b2.seq hq.ins hS, by rw [atS i hi, hz], fun H3 r3 b3 => ?_⟩
      have l3 : H3 l = some (.lst ((m.take i).map V.int)) := b3 l _ l2 (Ne.symm nq)
      refine ⟨l, _, _, rfl, rfl, l3, ?_, ?_⟩
      · rw [List.length_map, List.length_take]
        exact small (by omega)
      · refine ⟨_, rfl, fun b o e n => ?_, ?_, ?_⟩
        · rw [upd_ne (ne_of_none e nl)]
          exact b3 b o (b2 b o e n) n
        · obtain ⟨dx3, r3'⟩ := r3
          exact ⟨dx3, by rw [upd_ne nq]; exact r3'⟩
        · rw [upd_same, take_succ' hz, List.map_append]
          rfl
    · rintro σ H' ⟨v, rfl, b2, r2, l2⟩
      rw [List.take_length] at l2
      exact ⟨_, rfl, y H' l r2 b2 nl l2⟩
end
end WP
end
section
set_option Elab.async false
set_option linter.all false
set_option maxRecDepth 100000
set_option maxHeartbeats 4000000
namespace WP
open PySem PySem.Spec PyProof.Rows L2 WW
/-! ### the window on the heap -/
def winF (ls sp : Addr) (bell count : Int) : List (Str × V) := [("slots", .ref ls), ("bell", .int bell), ("count", .int count), ("spare", .ref sp)]
structure WinAt (C : Addr) (H : Hp) (p ls : Addr) (w : Win) : Prop where
  obj : ∃ dx sp, H p = some (.ins C dx (winF ls sp w.bell w.count)) ∧ H sp = some (.tup (w.spare.map V.int))
  lst : ∃ as : List Addr, H ls = some (.lst (as.map V.ref)) ∧ as.length = w.rows.length ∧ ∀ (j : Nat) (a : Addr) (r : List Int), as[j]? = some a → w.rows[j]? = some r → H a = some (.tup (r.map V.int))
/-- all but p and ls -/
def But2 (p ls : Addr) (H H' : Hp) : Prop := ∀ b o, H b = some o → b ≠ p → b ≠ ls → H' b = some o
theorem But2.refl (p ls : Addr) (H : Hp) : But2 p ls H H := fun _ _ e _ _ => e
theorem But2.trans {p ls : Addr} {H H1 H2 : Hp} (a : But2 p ls H H1) (b : But2 p ls H1 H2) : But2 p ls H H2 := fun c o e n1 n2 => b c o (a c o e n1 n2) n1 n2
theorem But2.same {p ls : Addr} {H H1 H2 : Hp} (a : But2 p ls H H1) (b : Same H1 H2) : But2 p ls H H2 := fun c o e n1 n2 => b c o (a c o e n1 n2)
theorem But2.updP {p ls : Addr} {H H1 : Hp} {o : HO} (a : But2 p ls H H1) : But2 p ls H (upd H1 p o) := fun c u e n1 n2 => by rw [upd_ne n1]; exact a c u e n1 n2
theorem But2.updL {p ls : Addr} {H H1 : Hp} {o : HO} (a : But2 p ls H H1) : But2 p ls H (upd H1 ls o) := fun c u e n1 n2 => by rw [upd_ne n2]; exact a c u e n1 n2
theorem But2.none {p ls r : Addr} {H H1 : Hp} (a : But2 p ls H H1) (hp : r ≠ p) (hl : r ≠ ls) (h : H1 r = Option.none) : H r = Option.none := by
  cases e : H r with
  | none => rfl
  | some o => rw [a r o e hp hl] at h; cases h
structure WTxt (K : PySem.W.Frag) (C : Addr) : Prop where
  cl : Cls K C
  nS : NoAttr K C "slots"
  nB : NoAttr K C "bell"
  nC : NoAttr K C "count"
  nP : NoAttr K C "spare"
section
variable {C p ls : Addr} {H H' : Hp} {w : Win}
theorem WinAt.same (W : WinAt C H p ls w) (s : Same H H') : WinAt C H' p ls w := by
  obtain ⟨⟨dx, sp, h1, h2⟩, as, h3, h4, h5⟩ := W
  exact ⟨⟨dx, sp, s _ _ h1, s _ _ h2⟩, as, s _ _ h3, h4, fun j a r e1 e2 => s _ _ (h5 j a r e1 e2)⟩
theorem WinAt.but (W : WinAt C H p ls w) {q : Addr} (s : But q H H') (hq : ∀ o, H q = some o → ∃ C dx fs, o = HO.ins C dx fs) (n : p ≠ q) : WinAt C H' p ls w := by
  obtain ⟨⟨dx, sp, h1, h2⟩, as, h3, h4, h5⟩ := W
  have nt : ∀ (b : Addr) (xs : List V), H b = some (.tup xs) → b ≠ q := fun b xs e z => by
    subst z
    obtain ⟨_, _, _, e2⟩ := hq _ e
    cases e2
  have nl : ∀ (b : Addr) (xs : List V), H b = some (.lst xs) → b ≠ q := fun b xs e z => by
    subst z
    obtain ⟨_, _, _, e2⟩ := hq _ e
    cases e2
  exact ⟨⟨dx, sp, s _ _ h1 n, s _ _ h2 (nt _ _ h2)⟩, as, s _ _ h3 (nl _ _ h3), h4, fun j a r e1 e2 => s _ _ (h5 j a r e1 e2) (nt _ _ (h5 j a r e1 e2))⟩
theorem WinAt.ne (W : WinAt C H p ls w) : p ≠ ls := by
  obtain ⟨⟨dx, sp, h1, h2⟩, as, h3, h4, h5⟩ := W
  exact ne_of h1 h3 (by intro z; cases z)
/-- a row replaced -/
theorem WinAt.put (W : WinAt C H p ls w) {xs : List V} {t : Addr} {m : List Int} {j : Nat} (hx : H ls = some (.lst xs)) (ht : H t = some (.tup (m.map V.int))) :
    WinAt C (upd H ls (.lst (xs.set j (.ref t)))) p ls { w with rows := w.rows.set j m } := by
  obtain ⟨⟨dx, sp, h1, h2⟩, as, h3, h4, h5⟩ := W
  rw [hx] at h3
  cases h3
  have n1 : p ≠ ls := ne_of h1 hx (by intro z; cases z)
  have nt : ∀ (b : Addr) (ys : List V), H b = some (.tup ys) → b ≠ ls := fun b ys e => ne_of e hx (by intro z; cases z)
  refine ⟨⟨dx, sp, by rw [upd_ne n1]; exact h1, by rw [upd_ne (nt _ _ h2)]; exact h2⟩, as.set j t, ?_, ?_, fun j' a r e1 e2 => ?_⟩
  · rw [upd_same, List.map_set]
  · show (as.set j t).length = (w.rows.set j m).length
    rw [List.length_set, List.length_set, h4]
  · have e2 : (w.rows.set j m)[j']? = some r := e2
    by_cases hj : j = j'
    · subst hj
      have hl : j < as.length := by
        have := (List.getElem?_eq_some_iff.mp e1).1
        rw [List.length_set] at this
        exact this
      rw [List.getElem?_set_self hl] at e1
      rw [List.getElem?_set_self (by rw [← h4]; exact hl)] at e2
      cases e1
      cases e2
      rw [upd_ne (nt _ _ ht)]
      exact ht
    · rw [List.getElem?_set_ne hj] at e1 e2
      have e3 := h5 j' a r e1 e2
      rw [upd_ne (nt _ _ e3)]
      exact e3
/-- the object's fields replaced -/
theorem WinAt.fields (W : WinAt C H p ls w) {dx : Addr} {sp : Addr} {b c : Int} {s : List Int} (h : H sp = some (.tup (s.map V.int))) : WinAt C (upd H p (.ins C dx (winF ls sp b c))) p ls { rows := w.rows, bell := b, count := c, spare := s } := by
  obtain ⟨⟨dx0, sp0, h1, h2⟩, as, h3, h4, h5⟩ := W
  have nt : ∀ (b : Addr) (ys : List V), H b = some (.tup ys) → b ≠ p := fun b ys e => ne_of e h1 (by intro z; cases z)
  have nl : ls ≠ p := ne_of h3 h1 (by intro z; cases z)
  refine ⟨⟨dx, sp, upd_same, by rw [upd_ne (nt _ _ h)]; exact h⟩, as, by rw [upd_ne nl]; exact h3, h4, fun j a r e1 e2 => ?_⟩
  have e3 := h5 j a r e1 e2
  rw [upd_ne (nt _ _ e3)]
  exact e3
end
theorem put_bell (ls sp : Addr) (b c x : Int) : putF "bell" (.int x) (winF ls sp b c) = winF ls sp x c := rfl
theorem put_count (ls sp : Addr) (b c x : Int) : putF "count" (.int x) (winF ls sp b c) = winF ls sp b x := rfl
theorem put_spare (ls sp s' : Addr) (b c : Int) : putF "spare" (.ref s') (winF ls sp b c) = winF ls s' b c := rfl
/-- what a method leaves -/
def Post (C : Addr) (H : Hp) (p ls : Addr) (w' : Win) (ans : List Int) (Q : VK) : Prop :=
  ∀ (H' : Hp) (r : Addr), WinAt C H' p ls w' → But2 p ls H H' → H r = none → H' r = some (.lst (ans.map V.int)) → Q (.ref r) H'
theorem Post.end_ {C : Addr} {H H1 : Hp} {p ls r : Addr} {w' : Win} {ans : List Int} {Q : VK} (y : Post C H p ls w' ans Q) (W : WinAt C H1 p ls w') (b : But2 p ls H H1) (h : H1 r = none) : Q (.ref r) (upd H1 r (.lst (ans.map V.int))) := by
  have n1 : r ≠ p := fun e => by
    obtain ⟨⟨dx, sp, h1, _⟩, _⟩ := W
    rw [e, h1] at h
    cases h
  have n2 : r ≠ ls := fun e => by
    obtain ⟨_, as, h3, _⟩ := W
    rw [e, h3] at h
    cases h
  exact y _ r (W.same ((Same.refl H1).laid h)) (b.same ((Same.refl H1).laid h)) (b.none n1 n2 h) upd_same
section
variable {P : Program} {w : World} {K : PySem.W.Frag} {mg : Str → Option Value} {base : Heap}
abbrev sWInit : Stmt := inClass sWin 0
abbrev sBegin : Stmt := inClass sWin 1
abbrev sSend : Stmt := inClass sWin 2
abbrev sPatch : Stmt := inClass sWin 3
abbrev sFill : Stmt := inClass sWin 4
abbrev sMove : Stmt := inClass sWin 5
theorem slot_ok {z : Int} (h0 : 0 ≤ z) : (!decide (0 ≤ z ∧ z < 64)) = decide (64 ≤ z) := by
  by_cases h : z < 64
  · have h2 : ¬ 64 ≤ z := by omega
    simp [h0, h, h2]
  · have h2 : 64 ≤ z := by omega
    simp [h, h2]
theorem slot_if {z : Int} {A B : Prop} (h0 : 0 ≤ z) (h1 : 64 ≤ z → A) (h2 : z < 64 → B) : if (!decide (0 ≤ z ∧ z < 64)) = true then A else B := by
  rw [slot_ok h0]
  refine ite2 (fun h => h1 (of_decide_eq_true h)) (fun h => h2 ?_)
  have : ¬ 64 ≤ z := fun e => h (decide_eq_true e)
  omega
theorem ixN_of {n i : Nat} (h : i < n) : ixN n (i : Int) = some i := by
  unfold ixN
  rw [if_pos (by omega), if_pos (by omega)]
  simp
/-! ### send -/
def spSend (C : Addr) : Sp := fun vs H Q _ => ∃ (p ls m : Addr) (i : Int) (w : Win) (msg : List Int), vs = [.ref p, .int i, .ref m] ∧ WOk w ∧ WinAt C H p ls w ∧ 0 ≤ i ∧ H m = some (.lst (msg.map V.int)) ∧
  (64 ≤ i → Post C H p ls w [-1] Q) ∧ ∀ j : Nat, i = (j : Int) → j < 64 → Post C H p ls (w.send j msg) [0] Q
theorem scSend : FnScope ["self", "slot", "message"] ["self", "slot", "message"] (defScope sSend) := ⟨rfl, rfl, rfl, by decide +kernel, rfl, by decide +kernel, by decide +kernel⟩
theorem ok_send {f fS C : Addr} {fd fdS : FuncData} (F : Fun K "send" "Window.send" sSend f fd) (T : WTxt K C) (G : Glo mg) (FS : Fun K "is_slot" "is_slot" sSlot fS fdS) (bS : Binds K fdS ["slot"] []) (mS : mg "is_slot" = some (.ref fS)) :
    FnOk P w K mg base CX0 2 f fd ["self", "slot", "message"] (spSend C) := by
  have GS : FnOk P w K mg base CX0 1 fS fdS ["slot"] spSlot := ok_slot FS G
  refine F.ok scSend (fun vs H Q E h => ?_) (fun cdv A outer s H vs Q E hr h => ?_)
  · obtain ⟨p, ls, m, i, wn, msg, rfl, _⟩ := h
    rfl
  · obtain ⟨p, ls, m, i, wn, msg, rfl, wok, W, h0, hm, yN, yS⟩ := h
    refine ⟨_, pss_cons (ps_if (pt_not (pt_val (pe_call GS hr rfl mS FS.kp bS .nil pass0 (pa_cons (pv 1) pa_nil)))) (pss_one (ps_ret (pe_lst (pa_cons (pgl G.refused) pa_nil)))) pss_nil)
      (pss_cons (ps_asg (pe_callTy call_tuple_of rfl G.tuple boot_tuple (pa_cons (pv 2) pa_nil)) (pg_sub (pe_fld (pv 0) rfl) (pv 1) set_list))
      (pss_cons (ps_fld (pv 0) (pe_op op_mod (pe_op op_add (pe_fld (pv 0) rfl) pe_int) (pgl G.limit)) rfl)
      (pss_cons (ps_fld (pv 0) (pe_op op_add (pv 1) pe_int) rfl)
      (pss_one (ps_ret (pe_lst (pa_cons (pgl G.done) pa_nil))))))), ?_⟩
    refine ⟨_, rfl, _, rfl, _, rfl, slot_if h0 (fun h => ?_) (fun h64 => ?_)⟩
    · exact ⟨by show 1 ≤ sizeLine; decide, fun r hr' => (yN h).end_ W (But2.refl p ls H) hr'⟩
    · obtain ⟨j, rfl⟩ := Int.eq_ofNat_of_zero_le h0
      have hj : j < 64 := by omega
      refine ⟨_, rfl, m, _, rfl, .inl ⟨SqL.of hm, fun t ht => ?_⟩⟩
      have s1 : Same H (upd H t (.tup (msg.map V.int))) := (Same.refl H).laid ht
      have W1 := W.same s1
      obtain ⟨⟨dx, sp, h1, h2⟩, as, h3, h4, h5⟩ := id W1
      refine ⟨_, rfl, p, C, dx, _, _, rfl, h1, T.cl, T.nS, rfl, _, rfl, ls, _, _, j, rfl, rfl, h3, ixN_of (by rw [List.length_map, h4, wok.n]; exact hj), ?_⟩
      have W2 := W1.put (j := j) h3 (m := msg) upd_same
      have b2 : But2 p ls H (upd (upd H t (.tup (msg.map V.int))) ls (.lst ((as.map V.ref).set j (.ref t)))) := ((But2.refl p ls H).same s1).updL
      obtain ⟨⟨dx2, sp2, h1, h2⟩, _⟩ := id W2
      generalize upd (upd H t (.tup (msg.map V.int))) ls (.lst ((as.map V.ref).set j (.ref t))) = H2 at W2 b2 h1 h2
      refine ⟨_, rfl, p, C, dx2, _, _, rfl, h1, T.cl, T.nC, rfl, _, _, rfl, rfl, _, _, rfl, rfl, (by show (0 : Int) < 18446744073709551616; decide), _, rfl, p, C, dx2, _, rfl, h1, T.cl, T.nC, (by show 4 < 1000; decide), ?_⟩
      rw [put_count]
      refine ⟨_, rfl, _, _, rfl, rfl, _, rfl, p, C, dx2, _, rfl, upd_same, T.cl, T.nB, (by show 4 < 1000; decide), ?_⟩
      rw [put_bell, upd_upd]
      refine ⟨by show 1 ≤ sizeLine; decide, fun r hr' => ?_⟩
      exact (yS j rfl hj).end_ (W2.fields h2) b2.updP hr'
end
end WP
end
section
set_option Elab.async false
set_option linter.all false
set_option maxRecDepth 100000
set_option maxHeartbeats 4000000
namespace WP
open PySem PySem.Spec PyProof.Rows L2 WW
section
variable {P : Program} {w : World} {K : PySem.W.Frag} {mg : Str → Option Value} {base : Heap}
theorem cut_to (r : List Int) {off : Nat} (h : off ≤ r.length) : cutV (r.map V.int) none (some (off : Int)) = (r.take off).map V.int := by
  unfold cutV
  rw [HT.sIx_none, HT.sIx_nat, List.drop_zero, Nat.sub_zero, List.length_map, Nat.min_eq_left h, List.map_take]
theorem cut_from (r : List Int) {off : Nat} (h : off ≤ r.length) : cutV (r.map V.int) (some (off : Int)) none = (r.drop off).map V.int := by
  unfold cutV
  rw [HT.sIx_none, HT.sIx_nat, List.length_map, Nat.min_eq_left h, ← List.map_drop, ← List.map_take, List.take_of_length_le (by rw [List.length_drop]; exact Nat.le_refl _)]
theorem cut_mid {α : Type} (f : α → V) (l : List α) {a n : Nat} (h : a + n ≤ l.length) : cutV (l.map f) (some (a : Int)) (some ((a : Int) + (n : Int))) = ((l.drop a).take n).map f := by
  unfold cutV
  have e : ((a : Int) + (n : Int)) = ((a + n : Nat) : Int) := by omega
  rw [e, HT.sIx_nat, HT.sIx_nat, List.length_map, Nat.min_eq_left (show a ≤ l.length by omega), Nat.min_eq_left h, ← List.map_drop, ← List.map_take]
  congr 2
  omega
/-! ### patch -/
def spPatch (C : Addr) : Sp := fun vs H Q _ => ∃ (p ls m : Addr) (i off : Int) (w : Win) (msg : List Int), vs = [.ref p, .int i, .int off, .ref m] ∧ WOk w ∧ WinAt C H p ls w ∧ 0 ≤ i ∧ 0 ≤ off ∧ H m = some (.lst (msg.map V.int)) ∧ msg.length ≤ 64 ∧
  ((64 ≤ i ∨ 64 < off + (msg.length : Int)) → Post C H p ls w [-1] Q) ∧ ∀ j k : Nat, i = (j : Int) → off = (k : Int) → j < 64 → k + msg.length ≤ 64 → Post C H p ls (w.patch j k msg) [0] Q
theorem scPatch : FnScope ["self", "slot", "off", "given", "end", "held"] ["self", "slot", "off", "given"] (defScope sPatch) := ⟨rfl, rfl, rfl, by decide +kernel, rfl, by decide +kernel, by decide +kernel⟩
theorem ok_patch {f fS C : Addr} {fd fdS : FuncData} (F : Fun K "patch" "Window.patch" sPatch f fd) (T : WTxt K C) (G : Glo mg) (FS : Fun K "is_slot" "is_slot" sSlot fS fdS) (bS : Binds K fdS ["slot"] []) (mS : mg "is_slot" = some (.ref fS)) :
    FnOk P w K mg base CX0 2 f fd ["self", "slot", "off", "given"] (spPatch C) := by
  have GS : FnOk P w K mg base CX0 1 fS fdS ["slot"] spSlot := ok_slot FS G
  refine F.ok scPatch (fun vs H Q E h => ?_) (fun cdv A outer s H vs Q E hr h => ?_)
  · obtain ⟨p, ls, m, i, off, wn, msg, rfl, _⟩ := h
    rfl
  · obtain ⟨p, ls, m, i, off, wn, msg, rfl, wok, W, h0, o0, hm, hl, yN, yS⟩ := h
    refine ⟨_, pss_cons (ps_set (i := 4) scPatch.nd rfl (Or.inl rfl) (pe_op op_add (pv 2) (pe_callB call_len_seq rfl G.len PySem.boot_len (pa_cons (pv 3) pa_nil))))
      (pss_cons (ps_if (PW.pt (pw_or (pt_not (pt_val (pe_call GS hr rfl mS FS.kp bS .nil pass0 (pa_cons (pv 1) pa_nil)))) (pw_or1 (pt_cmpR op_gt (pv 4) (pgl G.slotBytes) (nomark _))))) (pss_one (ps_ret (pe_lst (pa_cons (pgl G.refused) pa_nil)))) pss_nil)
      (pss_cons (ps_set (i := 5) scPatch.nd rfl (Or.inl rfl) (pe_ix ix_list (pe_fld (pv 0) rfl) (pv 1) (fun _ _ => rfl)))
      (pss_cons (ps_asg (pe_op op_catTA (pe_op op_catTA (pe_slice sl_tupA (pv 5) po_none (po_some (pv 2))) (pe_callTy call_tuple_of rfl G.tuple boot_tuple (pa_cons (pv 3) pa_nil))) (pe_slice sl_tupA (pv 5) (po_some (pv 4)) po_none))
        (pg_sub (pe_fld (pv 0) rfl) (pv 1) set_list))
      (pss_one (ps_ret (pe_lst (pa_cons (pgl G.done) pa_nil))))))), ?_⟩
    refine ⟨_, rfl, _, rfl, m, _, rfl, .inl (SqL.of hm), _, _, rfl, rfl, ?_⟩
    have eml : ((msg.map V.int).length : Int) = (msg.length : Int) := by rw [List.length_map]
    have no : (64 ≤ i ∨ 64 < off + (msg.length : Int)) → tRet (tLst (tCons (tC (.int (-1))) tNil)) { nx := fun _ H' => Q .non H', rt := Q } [some (.ref p), some (.int i), some (.int off), some (.ref m), some (.int (off + (msg.length : Int))), none] H := fun hh =>
      ⟨by show 1 ≤ sizeLine; decide, fun r hr' => (yN hh).end_ W (But2.refl p ls H) hr'⟩
    refine ⟨_, rfl, _, rfl, _, rfl, slot_if h0 (fun h => iteT (no (.inl h))) (fun h64 => ⟨_, rfl, _, _, rfl, rfl, _, rfl, ite2 (fun h2 => no (.inr (by rw [← eml]; exact of_decide_eq_true h2))) (fun h2 => ?_)⟩)⟩
    have o64 : off + (msg.length : Int) ≤ 64 := by
      have : ¬ 64 < off + (msg.length : Int) := fun z => h2 (decide_eq_true (by rw [eml]; exact z))
      omega
    obtain ⟨j, rfl⟩ := Int.eq_ofNat_of_zero_le h0
    obtain ⟨k, rfl⟩ := Int.eq_ofNat_of_zero_le o0
    have hj : j < 64 := by omega
    have hk : k + msg.length ≤ 64 := by omega
    obtain ⟨r, hr1, hr2⟩ := row_at wok hj
    have hr3 := hr2.1
    obtain ⟨⟨dx, sp, h1, h2'⟩, as, h3, h4, h5⟩ := id W
    have hja : j < as.length := by rw [h4, wok.n]; exact hj
    obtain ⟨a, ha⟩ : ∃ a, as[j]? = some a := ⟨_, List.getElem?_eq_getElem hja⟩
    have hat := h5 j a r ha hr1
    refine ⟨_, rfl, p, C, dx, _, _, rfl, h1, T.cl, T.nS, rfl, _, rfl, ls, _, _, _, rfl, rfl, SqL.of h3, atI_nat (v := V.ref a) (by rw [List.getElem?_map, ha]; rfl), ?_⟩
    -- held[:off] + tuple(given) + held[end:]
    refine ⟨_, rfl, _, rfl, _, rfl, a, _, rfl, hat, fun t1 H1 s1 e1 => ?_⟩
    rw [cut_to r (by omega)] at e1
    refine ⟨_, rfl, m, _, rfl, .inl ⟨SqL.of (s1 _ _ hm), fun t2 ht2 => ?_⟩⟩
    have s2 : Same H1 (upd H1 t2 (.tup (msg.map V.int))) := (Same.refl H1).laid ht2
    refine ⟨t1, t2, _, _, rfl, rfl, s2 _ _ e1, upd_same, ?_, fun t3 H3 s3 e3 => ?_⟩
    · rw [List.length_map, List.length_map, List.length_take]
      exact Nat.le_of_lt (small (by omega))
    rw [← List.map_append] at e3
    have s13 : Same H H3 := (s1.trans s2).trans s3
    refine ⟨_, rfl, _, rfl, _, rfl, a, _, rfl, s13 _ _ hat, fun t4 H4 s4 e4 => ?_⟩
    have ek : ((k : Int) + (msg.length : Int)) = ((k + msg.length : Nat) : Int) := by omega
    rw [eml, ek, cut_from r (by omega)] at e4
    refine ⟨t3, t4, _, _, rfl, rfl, s4 _ _ e3, e4, ?_, fun t5 H5 s5 e5 => ?_⟩
    · rw [List.length_map, List.length_map, List.length_append, List.length_take, List.length_drop]
      exact Nat.le_of_lt (small (by omega))
    rw [← List.map_append, List.append_assoc] at e5
    have s15 : Same H H5 := (s13.trans s4).trans s5
    have W1 := W.same s15
    refine ⟨_, rfl, p, C, dx, _, _, rfl, s15 _ _ h1, T.cl, T.nS, rfl, _, rfl, ls, _, _, j, rfl, rfl, s15 _ _ h3, ixN_of (by rw [List.length_map]; exact hja), ?_⟩
    have W2 := W1.put (j := j) (s15 _ _ h3) (m := patched r k msg) e5
    refine ⟨by show 1 ≤ sizeLine; decide, fun q hq => ?_⟩
    have e6 : wn.patch j k msg = { wn with rows := wn.rows.set j (patched r k msg) } := by
      unfold Win.patch
      rw [List.getD_eq_getElem?_getD, hr1]
      rfl
    have y := yS j k rfl rfl hj hk
    rw [e6] at y
    exact y.end_ W2 ((But2.refl p ls H).same s15).updL hq
/-! ### fill -/
theorem fillFrom_row (x st : Int) (k : Nat) : fillFrom x st (((0 : Int) + (k : Int)) * 8) 8 = fillRow x st k := by
  unfold fillFrom fillRow
  refine congrArg (fun f => List.flatMap f (List.range 8)) (funext fun j => ?_)
  have e : (((0 : Int) + (k : Int)) * 8 + (j : Int)) = 8 * (k : Int) + (j : Int) := by omega
  rw [e]
def spFill (C : Addr) : Sp := fun vs H Q _ => ∃ (p ls : Addr) (i n x st : Int) (w : Win), vs = [.ref p, .int i, .int n, .int x, .int st] ∧ WOk w ∧ WinAt C H p ls w ∧ 0 ≤ i ∧ 0 ≤ st ∧ st < 18446744073709551616 ∧
  ((n < 0 ∨ 64 < i + n) → Post C H p ls w [-1] Q) ∧ ∀ j k : Nat, i = (j : Int) → n = (k : Int) → j + k ≤ 64 → Post C H p ls (w.fill j k x st) [0] Q
theorem scFill : FnScope ["self", "slot", "n", "x", "step", "k"] ["self", "slot", "n", "x", "step"] (defScope sFill) := ⟨rfl, rfl, rfl, by decide +kernel, rfl, by decide +kernel, by decide +kernel⟩
theorem ok_fill {f fL fW C : Addr} {fd fdL fdW : FuncData} (F : Fun K "fill" "Window.fill" sFill f fd) (T : WTxt K C) (G : Glo mg) (FL : Fun K "filled_slot" "filled_slot" sFil fL fdL) (bL : Binds K fdL ["x", "step", "first"] []) (mL : mg "filled_slot" = some (.ref fL))
    (FW : Fun K "word_bytes" "word_bytes" sWb fW fdW) (bW : Binds K fdW ["word"] []) (mW : mg "word_bytes" = some (.ref fW)) : FnOk P w K mg base CX0 3 f fd ["self", "slot", "n", "x", "step"] (spFill C) := by
  have GL : FnOk P w K mg base CX0 2 fL fdL ["x", "step", "first"] spFil := ok_fil FL G FW bW mW
  refine F.ok scFill (fun vs H Q E h => ?_) (fun cdv A outer s H vs Q E hr h => ?_)
  · obtain ⟨p, ls, i, n, x, st, wn, rfl, _⟩ := h
    rfl
  · obtain ⟨p, ls, i, n, x, st, wn, rfl, wok, W, h0, s0, s1, yN, yS⟩ := h
    refine ⟨_, pss_cons (ps_if (PW.pt (pw_or (pt_cmpR op_lt (pv 2) pe_int (nomark _)) (pw_or1 (pt_cmpR op_gt (pe_op op_add (pv 1) (pv 2)) (pgl G.slots) (nomark _))))) (pss_one (ps_ret (pe_lst (pa_cons (pgl G.refused) pa_nil)))) pss_nil)
      (pss_cons (ps_for PassesOwn.never rfl (pi_range1 rfl G.range (pa_cons (pv 2) pa_nil)) (pg_name (i := 5) scFill.nd rfl (Or.inl rfl))
        (pss_one (ps_asg (pe_call GL hr rfl mL FL.kp bL .nil pass0 (pa_cons (pv 3) (pa_cons (pv 4) (pa_cons (pe_op op_mul (pv 5) (pgl G.slotWords)) pa_nil)))) (pg_sub (pe_fld (pv 0) rfl) (pe_op op_add (pv 1) (pv 5)) set_list))))
      (pss_one (ps_ret (pe_lst (pa_cons (pgl G.done) pa_nil))))), ?_⟩
    have no : (n < 0 ∨ 64 < i + n) → tRet (tLst (tCons (tC (.int (-1))) tNil)) { nx := fun _ H' => Q .non H', rt := Q } [some (.ref p), some (.int i), some (.int n), some (.int x), some (.int st), none] H := fun hh =>
      ⟨by show 1 ≤ sizeLine; decide, fun r hr' => (yN hh).end_ W (But2.refl p ls H) hr'⟩
    refine ⟨_, rfl, _, _, rfl, rfl, _, rfl, ite2 (fun h => iteT (no (.inl (of_decide_eq_true h)))) (fun h => ⟨_, rfl, _, rfl, _, _, rfl, rfl, _, _, rfl, rfl, _, rfl, ite2 (fun h2 => no (.inr (of_decide_eq_true h2))) (fun h2 => ?_)⟩)⟩
    have n0 : 0 ≤ n := by
      have : ¬ n < 0 := fun z => h (decide_eq_true z)
      omega
    have n1 : i + n ≤ 64 := by
      have : ¬ 64 < i + n := fun z => h2 (decide_eq_true z)
      omega
    obtain ⟨j, rfl⟩ := Int.eq_ofNat_of_zero_le h0
    obtain ⟨k, rfl⟩ := Int.eq_ofNat_of_zero_le n0
    have hjk : j + k ≤ 64 := by omega
    refine ⟨_, rfl, _, rfl, by omega, by omega, ?_⟩
    rw [Int.toNat_natCast]
    refine for_range (lo := 0) (n := k) (fun i σ H' => ∃ v : Option V, σ = [some (.ref p), some (.int (j : Int)), some (.int (k : Int)), some (.int x), some (.int st), v] ∧ But2 p ls H H' ∧ WinAt C H' p ls (wn.fill j i x st))
      ⟨none, rfl, But2.refl p ls H, W⟩ ?_ ?_
    · rintro i σ H' hi ⟨v, rfl, b1, W1⟩
      refine ⟨_, rfl, _, rfl, _, rfl, _, _, rfl, rfl, .inr ⟨by decide, by decide⟩, ?_⟩
      refine ⟨x, st, _, rfl, s0, s1, by omega, by omega, fun H2 t z2 nt ht => ?_⟩
      rw [fillFrom_row] at ht
      have W2 := W1.same z2
      obtain ⟨⟨dx, sp, h1, h2'⟩, as, h3, h4, h5⟩ := id W2
      have hn : (wn.fill j i x st).rows.length = 64 := by
        unfold Win.fill
        show (setRows wn.rows j ((List.range i).map (fillRow x st))).length = 64
        rw [setRows_length, wok.n]
      have ek : ((j : Int) + ((0 : Int) + (i : Int))) = ((j + i : Nat) : Int) := by omega
      refine ⟨_, rfl, p, C, dx, _, _, rfl, h1, T.cl, T.nS, rfl, _, rfl, _, rfl, _, _, rfl, rfl, ls, _, _, j + i, rfl, congrArg V.int ek, h3, ixN_of (by rw [List.length_map, h4, hn]; omega), ?_⟩
      have W3 := W2.put (j := j + i) h3 (m := fillRow x st i) ht
      have e : ({ (wn.fill j i x st) with rows := (wn.fill j i x st).rows.set (j + i) (fillRow x st i) } : Win) = wn.fill j (i + 1) x st := by
        unfold Win.fill
        rw [List.range_succ, List.map_append, List.map_cons, List.map_nil, setRows_snoc, List.length_map, List.length_range]
      rw [e] at W3
      exact ⟨_, rfl, (b1.same z2).updL, W3⟩
    · rintro σ H' ⟨v, rfl, b1, W1⟩
      exact ⟨by show 1 ≤ sizeLine; decide, fun q hq => (yS j k rfl rfl hjk).end_ W1 b1 hq⟩
/-! ### move -/
def spMove (C : Addr) : Sp := fun vs H Q _ => ∃ (p ls : Addr) (i j n : Int) (w : Win), vs = [.ref p, .int i, .int j, .int n] ∧ WOk w ∧ WinAt C H p ls w ∧ 0 ≤ i ∧ 0 ≤ j ∧
  ((n < 0 ∨ 64 < i + n ∨ 64 < j + n) → Post C H p ls w [-1] Q) ∧ ∀ a b k : Nat, i = (a : Int) → j = (b : Int) → n = (k : Int) → a + k ≤ 64 → b + k ≤ 64 → Post C H p ls (w.move a b k) [0] Q
theorem scMove : FnScope ["self", "source", "to", "n", "held", "k"] ["self", "source", "to", "n"] (defScope sMove) := ⟨rfl, rfl, rfl, by decide +kernel, rfl, by decide +kernel, by decide +kernel⟩
theorem ok_move {f C : Addr} {fd : FuncData} (F : Fun K "move" "Window.move" sMove f fd) (T : WTxt K C) (G : Glo mg) : FnOk P w K mg base CX0 1 f fd ["self", "source", "to", "n"] (spMove C) := by
  refine F.ok scMove (fun vs H Q E h => ?_) (fun cdv A outer s H vs Q E hr h => ?_)
  · obtain ⟨p, ls, i, j, n, wn, rfl, _⟩ := h
    rfl
  · obtain ⟨p, ls, i, j, n, wn, rfl, wok, W, h0, j0, yN, yS⟩ := h
    refine ⟨_, pss_cons (ps_if (PW.pt (pw_or (pt_cmpR op_lt (pv 3) pe_int (nomark _)) (pw_or (pt_cmpR op_gt (pe_op op_add (pv 1) (pv 3)) (pgl G.slots) (nomark _)) (pw_or1 (pt_cmpR op_gt (pe_op op_add (pv 2) (pv 3)) (pgl G.slots) (nomark _)))))) (pss_one (ps_ret (pe_lst (pa_cons (pgl G.refused) pa_nil)))) pss_nil)
      (pss_cons (ps_set (i := 4) scMove.nd rfl (Or.inl rfl) (pe_slice sl_list (pe_fld (pv 0) rfl) (po_some (pv 1)) (po_some (pe_op op_add (pv 1) (pv 3)))))
      (pss_cons (ps_for PassesOwn.never rfl (pi_range1 rfl G.range (pa_cons (pv 3) pa_nil)) (pg_name (i := 5) scMove.nd rfl (Or.inl rfl))
        (pss_one (ps_asg (pe_ix ix_list (pv 4) (pv 5) (fun _ _ => rfl)) (pg_sub (pe_fld (pv 0) rfl) (pe_op op_add (pv 2) (pv 5)) set_list))))
      (pss_one (ps_ret (pe_lst (pa_cons (pgl G.done) pa_nil)))))), ?_⟩
    have no : (n < 0 ∨ 64 < i + n ∨ 64 < j + n) → tRet (tLst (tCons (tC (.int (-1))) tNil)) { nx := fun _ H' => Q .non H', rt := Q } [some (.ref p), some (.int i), some (.int j), some (.int n), none, none] H := fun hh =>
      ⟨by show 1 ≤ sizeLine; decide, fun r hr' => (yN hh).end_ W (But2.refl p ls H) hr'⟩
    refine ⟨_, rfl, _, _, rfl, rfl, _, rfl, ite2 (fun h => iteT (no (.inl (of_decide_eq_true h)))) (fun h => ⟨_, rfl, _, rfl, _, _, rfl, rfl, _, _, rfl, rfl, _, rfl, ite2 (fun h2 => iteT (no (.inr (.inl (of_decide_eq_true h2))))) (fun h2 =>
      ⟨_, rfl, _, rfl, _, _, rfl, rfl, _, _, rfl, rfl, _, rfl, ite2 (fun h3 => no (.inr (.inr (of_decide_eq_true h3)))) (fun h3 => ?_)⟩)⟩)⟩
    have n0 : 0 ≤ n := by
      have : ¬ n < 0 := fun z => h (decide_eq_true z)
      omega
    have n1 : i + n ≤ 64 := by
      have : ¬ 64 < i + n := fun z => h2 (decide_eq_true z)
      omega
    have n2 : j + n ≤ 64 := by
      have : ¬ 64 < j + n := fun z => h3 (decide_eq_true z)
      omega
    obtain ⟨a, rfl⟩ := Int.eq_ofNat_of_zero_le h0
    obtain ⟨b, rfl⟩ := Int.eq_ofNat_of_zero_le j0
    obtain ⟨k, rfl⟩ := Int.eq_ofNat_of_zero_le n0
    have hak : a + k ≤ 64 := by omega
    have hbk : b + k ≤ 64 := by omega
    obtain ⟨⟨dx, sp, h1, h2'⟩, as, h3', h4, h5⟩ := id W
    have las : as.length = 64 := by rw [h4, wok.n]
    refine ⟨_, rfl, p, C, dx, _, _, rfl, h1, T.cl, T.nS, rfl, _, rfl, _, rfl, _, rfl, _, rfl, _, _, rfl, rfl, _, rfl, ls, _, rfl, SqL.of h3', fun D hD => ?_⟩
    have s1 : Same H (upd H D (.lst (cutV (as.map V.ref) (some (a : Int)) (some ((a : Int) + (k : Int)))))) := (Same.refl H).laid hD
    have eD : (upd H D (.lst (cutV (as.map V.ref) (some (a : Int)) (some ((a : Int) + (k : Int)))))) D = some (.lst (((as.drop a).take k).map V.ref)) := by
      rw [upd_same, cut_mid V.ref as (by omega)]
    have W1 := W.same s1
    generalize upd H D (.lst (cutV (as.map V.ref) (some (a : Int)) (some ((a : Int) + (k : Int))))) = H1 at s1 eD W1
    refine ⟨_, rfl, _, rfl, by omega, by omega, ?_⟩
    rw [Int.toNat_natCast]
    have nD : D ≠ p ∧ D ≠ ls := ⟨fun e => (by rw [e, h1] at hD; cases hD), fun e => (by rw [e, h3'] at hD; cases hD)⟩
    refine for_range (lo := 0) (n := k) (fun i σ H' => ∃ v : Option V, σ = [some (.ref p), some (.int (a : Int)), some (.int (b : Int)), some (.int (k : Int)), some (.ref D), v] ∧ But2 p ls H1 H' ∧ WinAt C H' p ls { wn with rows := setRows wn.rows b (((wn.rows.drop a).take k).take i) })
      ⟨none, rfl, But2.refl p ls H1, W1⟩ ?_ ?_
    · rintro i σ H' hi ⟨v, rfl, b1, W2⟩
      obtain ⟨r, hr1, hr2⟩ := row_at wok (i := a + i) (by omega)
      obtain ⟨t, ht⟩ : ∃ t, as[a + i]? = some t := ⟨_, List.getElem?_eq_getElem (by omega)⟩
      have htr : H t = some (.tup (r.map V.int)) := h5 _ _ _ ht hr1
      have ntp : t ≠ p := ne_of htr h1 (by intro z; cases z)
      have ntl : t ≠ ls := ne_of htr h3' (by intro z; cases z)
      have ht2 : H' t = some (.tup (r.map V.int)) := b1 _ _ (s1 _ _ htr) ntp ntl
      have eD2 : H' D = some (.lst (((as.drop a).take k).map V.ref)) := b1 _ _ eD nD.1 nD.2
      have hat : ((as.drop a).take k)[i]? = some t := by rw [List.getElem?_take_of_lt hi, List.getElem?_drop]; exact ht
      have har : ((wn.rows.drop a).take k)[i]? = some r := by rw [List.getElem?_take_of_lt hi, List.getElem?_drop]; exact hr1
      have e0 : ((0 : Int) + (i : Int)) = (i : Int) := by omega
      refine ⟨_, rfl, _, rfl, D, _, _, _, rfl, rfl, SqL.of eD2, at_of (j := i) (v := V.ref t) e0 (by rw [List.getElem?_map, hat]; rfl), ?_⟩
      obtain ⟨⟨dx2, sp2, g1, g2⟩, as2, g3, g4, g5⟩ := id W2
      have hn : as2.length = 64 := by
        rw [g4]
        show (setRows wn.rows b (((wn.rows.drop a).take k).take i)).length = 64
        rw [setRows_length, wok.n]
      have ek : ((b : Int) + ((0 : Int) + (i : Int))) = ((b + i : Nat) : Int) := by omega
      refine ⟨_, rfl, p, C, dx2, _, _, rfl, g1, T.cl, T.nS, rfl, _, rfl, _, rfl, _, _, rfl, rfl, ls, _, _, b + i, rfl, congrArg V.int ek, g3, ixN_of (by rw [List.length_map, hn]; omega), ?_⟩
      have W3 := W2.put (j := b + i) g3 (m := r) ht2
      have hlen : (((wn.rows.drop a).take k).take i).length = i := by
        rw [List.length_take, List.length_take, List.length_drop, wok.n]
        omega
      have e : (setRows wn.rows b (((wn.rows.drop a).take k).take i)).set (b + i) r = setRows wn.rows b (((wn.rows.drop a).take k).take (i + 1)) := by
        rw [take_succ' har, setRows_snoc, hlen]
      refine ⟨_, rfl, b1.updL, ?_⟩
      rw [← e]
      exact W3
    · rintro σ H' ⟨v, rfl, b1, W2⟩
      have e : ((wn.rows.drop a).take k).take k = (wn.rows.drop a).take k := by
        rw [List.take_take, Nat.min_self]
      rw [e] at W2
      have bb : But2 p ls H H' := fun c o e n1 n2 => b1 c o (s1 c o e) n1 n2
      exact ⟨by show 1 ≤ sizeLine; decide, fun q hq => (yS a b k rfl rfl rfl hak hbk).end_ W2 bb hq⟩
end
end WP
end
section
set_option Elab.async false
set_option linter.all false
set_option maxRecDepth 100000
set_option maxHeartbeats 4000000
namespace WP
open PySem PySem.Spec PyProof.Rows L2 WW ZS
section
variable {P : Program} {w : World} {K : PySem.W.Frag} {mg : Str → Option Value} {base : Heap}
/-! ### Window() -/
def spWInit (C : Addr) : Sp := fun vs H Q _ => ∃ (p dx : Addr), vs = [.ref p] ∧ H p = some (.ins C dx []) ∧ ∀ (H' : Hp) (ls : Addr), WinAt C H' p ls win0 → But p H H' → H ls = none → Q .non H'
theorem scWInit : FnScope ["self", "k"] ["self"] (defScope sWInit) := ⟨rfl, rfl, rfl, by decide +kernel, rfl, by decide +kernel, by decide +kernel⟩
theorem rep_flat (n : Nat) (v : V) : (List.replicate n [v]).flatten = List.replicate n v := by
  induction n with
  | zero => rfl
  | succ n ih => rw [List.replicate_succ, List.flatten_cons, ih]; rfl
theorem ok_winit {f C : Addr} {fd : FuncData} (F : Fun K "__init__" "Window.__init__" sWInit f fd) (T : WTxt K C) (G : Glo mg) : FnOk P w K mg base CX0 1 f fd ["self"] (spWInit C) := by
  refine F.ok scWInit (fun vs H Q E h => ?_) (fun cdv A outer s H vs Q E hr h => ?_)
  · obtain ⟨p, dx, rfl, _⟩ := h
    rfl
  · obtain ⟨p, dx, rfl, hp, y⟩ := h
    have hsl : sizeLine = 16777216 := sizeLine_eq
    refine ⟨_, pss_cons (ps_fld (pv 0) (pe_lc (own := [("k", 1)]) rfl scWInit.nd (pi_range1 rfl G.range (pa_cons (pgl G.slots) pa_nil)) (blkOk_by (by show blkC ["self", "k"] (defScope sWInit) _ _ = true; decide +kernel))
        (fun _ _ _ _ _ => pg_name (i := 1) scWInit.nd rfl (Or.inl rfl)) (fun _ _ _ _ _ => pts_nil)
        (fun _ _ _ _ _ => pe_op op_repT (pe_tup (pa_cons pe_int pa_nil)) (pgl G.slotBytes))) rfl)
      (pss_cons (ps_fld (pv 0) pe_int rfl) (pss_cons (ps_fld (pv 0) pe_int rfl)
      (pss_one (ps_fld (pv 0) (pe_op op_repT (pe_tup (pa_cons pe_int pa_nil)) (pgl G.spareBytes)) rfl)))), ?_⟩
    refine ⟨64, rfl, by decide, by decide, fun D hD => lc_range (lo := 0) (n := 64) (fun i H' => ∃ as : List Addr, H' D = some (.lst (as.map V.ref)) ∧ as.length = i ∧ (∀ a ∈ as, H' a = some (.tup (List.replicate 64 (V.int 0)))) ∧ Same H H')
      ⟨[], upd_same, rfl, fun a m => (by cases m), (Same.refl H).laid hD⟩ ?_ ?_⟩
    · rintro i H' hi ⟨as, a1, a2, a3, a4⟩
      refine ⟨rfl, tyes ?_⟩
      refine ⟨by show 1 ≤ sizeLine; decide, fun t ht => ?_⟩
      refine ⟨t, 64, [V.int 0], rfl, rfl, upd_same, by simp, by decide, by decide, by show 1 * 64 ≤ sizeLine; decide, fun t2 ht2 => ?_⟩
      have nDt : D ≠ t := ne_of_none a1 ht
      have nDt2 : D ≠ t2 := ne_of_none (by rw [upd_ne nDt]; exact a1) ht2
      have s1 : Same H' (upd (upd H' t (.tup [V.int 0])) t2 (.tup (List.replicate (64 : Int).toNat [V.int 0]).flatten)) := ((Same.refl H').laid ht).laid ht2
      refine ⟨_, s1 _ _ a1, by rw [List.length_map]; omega, as ++ [t2], ?_, by rw [List.length_append, a2]; rfl, fun a ma => ?_, (a4.trans s1).own hD⟩
      · rw [upd_same, List.map_append]
        rfl
      · rcases List.mem_append.mp ma with m | m
        · have e := s1 _ _ (a3 a m)
          rw [upd_ne (ne_of (a3 a m) a1 (by intro z; cases z))]
          exact e
        · have e : a = t2 := by simpa using m
          subst e
          rw [upd_ne (Ne.symm nDt2), upd_same, rep_flat]
          rfl
    · rintro H1 ⟨as, a1, a2, a3, a4⟩
      refine ⟨_, rfl, p, C, dx, [], rfl, a4 _ _ hp, T.cl, T.nS, (by show 0 < 1000; decide), ?_⟩
      refine ⟨_, rfl, p, C, dx, _, rfl, upd_same, T.cl, T.nB, (by show 1 < 1000; decide), ?_⟩
      rw [upd_upd]
      refine ⟨_, rfl, p, C, dx, _, rfl, upd_same, T.cl, T.nC, (by show 2 < 1000; decide), ?_⟩
      rw [upd_upd]
      refine ⟨by show 1 ≤ sizeLine; decide, fun t ht => ?_⟩
      refine ⟨t, 48, [V.int 0], rfl, rfl, upd_same, by simp, by decide, by decide, by show 1 * 48 ≤ sizeLine; decide, fun t2 ht2 => ?_⟩
      have npt : p ≠ t := fun e => by rw [e, upd_same] at ht; cases ht
      have npt2 : p ≠ t2 := fun e => by rw [← e, upd_ne npt, upd_same] at ht2; cases ht2
      refine ⟨_, rfl, p, C, dx, _, rfl, by rw [upd_ne npt2, upd_ne npt, upd_same], T.cl, T.nP, (by show 3 < 1000; decide), ?_⟩
      have nDp : D ≠ p := fun e => by rw [e, hp] at hD; cases hD
      have nt : H1 t = none := by rw [upd_ne (Ne.symm npt)] at ht; exact ht
      have nt2t : t2 ≠ t := fun e => by rw [e, upd_same] at ht2; cases ht2
      have nt2 : H1 t2 = none := by rw [upd_ne nt2t, upd_ne (Ne.symm npt2)] at ht2; exact ht2
      have keep : ∀ b o, H1 b = some o → b ≠ p → upd (upd (upd (upd H1 p (.ins C dx (putF "count" (.int 0) (putF "bell" (.int 0) (putF "slots" (.ref D) []))))) t (.tup [V.int 0])) t2 (.tup (List.replicate (48 : Int).toNat [V.int 0]).flatten)) p
          (.ins C dx (putF "spare" (.ref t2) (putF "count" (.int 0) (putF "bell" (.int 0) (putF "slots" (.ref D) []))))) b = some o := fun b o e n => by
        rw [upd_ne n, upd_ne (ne_of_none e nt2), upd_ne (ne_of_none e nt), upd_ne n]
        exact e
      refine y _ D ⟨⟨dx, t2, upd_same, ?_⟩, as, keep _ _ a1 nDp, by rw [a2]; rfl, fun j a r e1 e2 => ?_⟩ (fun b o e n => keep b o (a4 b o e) n) hD
      · rw [upd_ne (Ne.symm npt2), upd_same, rep_flat]
        rfl
      · have er : r = List.replicate 64 0 := by
          have := List.mem_of_getElem? e2
          exact (List.mem_replicate.mp this).2
        have ha := a3 a (List.mem_of_getElem? e1)
        have nap : a ≠ p := ne_of ha (a4 _ _ hp) (by intro z; cases z)
        rw [keep _ _ ha nap, er, List.map_replicate]
/-! ### begin -/
theorem foldset_snoc {α β : Type} (f : β → α → β) (l : List α) (x : α) (m : β) : (l ++ [x]).foldl f m = f (l.foldl f m) x := by
  rw [List.foldl_append]
  rfl
def contentTo (p b : List Int) (i : Nat) : List Int := ((p.take i).zip (b.take i)).foldl (fun (m : List Int) (x : Int × Int) => m.set x.1.toNat x.2) (List.replicate 4160 0)
theorem contentTo_len (p b : List Int) (i : Nat) : (contentTo p b i).length = 4160 := by
  unfold contentTo
  rw [foldset_len, List.length_replicate]
theorem contentTo_succ {p b : List Int} {i : Nat} {x y : Int} (hx : p[i]? = some x) (hy : b[i]? = some y) : contentTo p b (i + 1) = (contentTo p b i).set x.toNat y := by
  unfold contentTo
  have h1 := (List.getElem?_eq_some_iff.mp hx).1
  have h2 := (List.getElem?_eq_some_iff.mp hy).1
  rw [take_succ' hx, take_succ' hy, List.zip_append (by rw [List.length_take, List.length_take]; omega)]
  exact foldset_snoc _ _ _ _
theorem contentTo_all {p b : List Int} (h : p.length = b.length) : contentTo p b p.length = content p b := by
  unfold contentTo content
  rw [List.take_length, h, List.take_length]
def spBegin (C : Addr) : Sp := fun vs H Q _ => ∃ (p ls a b : Addr) (w : Win) (ps bs : List Int), vs = [.ref p, .ref a, .ref b] ∧ WOk w ∧ WinAt C H p ls w ∧ H a = some (.lst (ps.map V.int)) ∧ H b = some (.lst (bs.map V.int)) ∧ a ≠ ls ∧ b ≠ ls ∧
  (∀ z ∈ ps, 0 ≤ z ∧ z < 4160) ∧ ps.length = bs.length ∧ Post C H p ls (Win.of (content ps bs)) [0] Q
theorem scBegin : FnScope ["self", "places", "given", "content", "place", "byte", "slot", "start"] ["self", "places", "given"] (defScope sBegin) := ⟨rfl, rfl, rfl, by decide +kernel, rfl, by decide +kernel, by decide +kernel⟩
theorem cut_chunk (c : List Int) (hl : c.length = 4160) {k : Nat} (hk : k < 64) : cutV (c.map V.int) (some (((0 : Int) + (k : Int)) * 64)) (some (((0 : Int) + (k : Int)) * 64 + 64)) = (chunk c k).map V.int := by
  have e1 : (((0 : Int) + (k : Int)) * 64) = ((64 * k : Nat) : Int) := by omega
  have e2 : (((0 : Int) + (k : Int)) * 64 + 64) = (((64 * k : Nat) : Int) + ((64 : Nat) : Int)) := by omega
  rw [e2, e1, cut_mid V.int c (by omega)]
  rfl
theorem ok_begin {f fN C : Addr} {fd fdN : FuncData} (F : Fun K "begin" "Window.begin" sBegin f fd) (T : WTxt K C) (G : Glo mg) (FN : Fun K "number_from" "number_from" sNum fN fdN) (bN : Binds K fdN ["content"] []) (mN : mg "number_from" = some (.ref fN)) :
    FnOk P w K mg base CX0 2 f fd ["self", "places", "given"] (spBegin C) := by
  have GN : FnOk P w K mg base CX0 1 fN fdN ["content"] (spNum K) := ok_num FN G
  refine F.ok scBegin (fun vs H Q E h => ?_) (fun cdv A outer s H vs Q E hr h => ?_)
  · obtain ⟨p, ls, a, b, wn, ps, bs, rfl, _⟩ := h
    rfl
  · obtain ⟨p, ls, a, b, wn, ps, bs, rfl, wok, W, ha, hb, nal, nbl, hps, hlen, y⟩ := h
    have hsl : sizeLine = 16777216 := sizeLine_eq
    refine ⟨_, pss_cons (ps_set (i := 3) scBegin.nd rfl (Or.inl rfl) (pe_op op_rep (pe_lst (pa_cons pe_int pa_nil)) (pgl G.windowBytes)))
      (pss_cons (ps_for PassesOwn.never rfl (pi_zipS rfl G.zip (pa_cons (pv 1) (pa_cons (pv 2) pa_nil))) (pg_tup rfl (pgs_cons (pg_name (i := 4) scBegin.nd rfl (Or.inl rfl)) (pgs_cons (pg_name (i := 5) scBegin.nd rfl (Or.inl rfl)) pgs_nil)))
        (pss_one (ps_asg (pv 5) (pg_sub (pv 3) (pv 4) set_list))))
      (pss_cons (ps_for PassesOwn.never rfl (pi_range1 rfl G.range (pa_cons (pgl G.slots) pa_nil)) (pg_name (i := 6) scBegin.nd rfl (Or.inl rfl))
        (pss_cons (ps_set (i := 7) scBegin.nd rfl (Or.inl rfl) (pe_op op_mul (pv 6) (pgl G.slotBytes)))
        (pss_one (ps_asg (pe_callTy call_tuple_of rfl G.tuple boot_tuple (pa_cons (pe_slice sl_list (pv 3) (po_some (pv 7)) (po_some (pe_op op_add (pv 7) (pgl G.slotBytes)))) pa_nil)) (pg_sub (pe_fld (pv 0) rfl) (pv 6) set_list)))))
      (pss_cons (ps_fld (pv 0) (pe_call GN hr rfl mN FN.kp bN .nil pass0 (pa_cons (pe_slice sl_list (pv 3) (po_some (pgl G.bell)) (po_some (pgl G.count))) pa_nil)) rfl)
      (pss_cons (ps_fld (pv 0) (pe_call GN hr rfl mN FN.kp bN .nil pass0 (pa_cons (pe_slice sl_list (pv 3) (po_some (pgl G.count)) (po_some (pgl G.spare))) pa_nil)) rfl)
      (pss_cons (ps_fld (pv 0) (pe_callTy call_tuple_of rfl G.tuple boot_tuple (pa_cons (pe_slice sl_list (pv 3) (po_some (pgl G.spare)) po_none) pa_nil)) rfl)
      (pss_one (ps_ret (pe_lst (pa_cons (pgl G.done) pa_nil))))))))), ?_⟩
    -- content = [0] * WINDOW_BYTES
    refine ⟨by show 1 ≤ sizeLine; decide, fun l0 hl0 => ?_⟩
    refine ⟨l0, 4160, [V.int 0], rfl, rfl, upd_same, by decide, by decide, by show 1 * 4160 ≤ sizeLine; decide, fun c hc => ?_⟩
    have s1 : Same H (upd (upd H l0 (.lst [V.int 0])) c (.lst (List.replicate (4160 : Int).toNat [V.int 0]).flatten)) := ((Same.refl H).laid hl0).laid hc
    have hcH : H c = none := ((Same.refl H).laid hl0).free hc
    have ec : upd (upd H l0 (.lst [V.int 0])) c (.lst (List.replicate (4160 : Int).toNat [V.int 0]).flatten) c = some (.lst ((contentTo ps bs 0).map V.int)) := by
      rw [upd_same, rep_flat]
      unfold contentTo
      rw [List.take_zero, List.take_zero]
      show _ = some (HO.lst ((List.replicate 4160 (0 : Int)).map V.int))
      rw [List.map_replicate]
      rfl
    generalize upd (upd H l0 (.lst [V.int 0])) c (.lst (List.replicate (4160 : Int).toNat [V.int 0]).flatten) = H1 at s1 ec
    have nca : c ≠ a := fun e => by rw [e, ha] at hcH; cases hcH
    have ncb : c ≠ b := fun e => by rw [e, hb] at hcH; cases hcH
    -- the bytes at their places
    refine ⟨_, rfl, _, rfl, a, b, _, _, rfl, SqL.of (s1 _ _ ha), SqL.of (s1 _ _ hb), for_zipS (K := K) (a := a) (b := b) (xs := ps.map V.int) (ys := bs.map V.int) (by rw [List.length_map, List.length_map]; exact hlen)
      (fun i σ H' => ∃ v1 v2 : Option V, σ = [some (.ref p), some (.ref a), some (.ref b), some (.ref c), v1, v2, none, none] ∧ Same H H' ∧ H' c = some (.lst ((contentTo ps bs i).map V.int)))
      ⟨none, none, rfl, s1, ec⟩ (fun i σ H' _ ⟨_, _, _, s2, _⟩ => ⟨SqL.of (s2 _ _ ha), SqL.of (s2 _ _ hb)⟩) ?_ ?_⟩
    · rintro i u v t σ H' hu hv ht ⟨v1, v2, rfl, s2, ec2⟩
      obtain ⟨x, hx, rfl⟩ := map_at hu
      obtain ⟨z, hz, rfl⟩ := map_at hv
      have hb0 := hps x (List.mem_of_getElem? hx)
      refine ⟨t, _, rfl, SqT.of upd_same, rfl, _, _, rfl, _, _, rfl, rfl, ?_⟩
      have nct : c ≠ t := ne_of_none ec2 ht
      refine ⟨_, rfl, _, rfl, _, rfl, c, _, x, x.toNat, rfl, rfl, by rw [upd_ne nct]; exact ec2, ?_, ?_⟩
      · obtain ⟨n, rfl⟩ := Int.eq_ofNat_of_zero_le hb0.1
        refine ixN_of ?_
        rw [List.length_map, contentTo_len]
        omega
      · refine ⟨_, _, rfl, (s2.laid ht).own hcH, ?_⟩
        rw [upd_same, contentTo_succ hx hz, List.map_set]
    · rintro σ H2 ⟨v1, v2, rfl, s2, ec2⟩
      rw [List.length_map, contentTo_all hlen] at ec2
      have lc := content_len ps bs
      generalize content ps bs = cc at ec2 lc y
      have W2 := W.same s2
      have ncls : c ≠ ls := fun e => by
        obtain ⟨_, as, h3, _⟩ := W
        rw [e, h3] at hcH
        cases hcH
      have ncp : c ≠ p := fun e => by
        obtain ⟨⟨dx, sp, h1, _⟩, _⟩ := W
        rw [e, h1] at hcH
        cases hcH
      -- the slots
      refine ⟨64, rfl, by decide, by decide, for_range (lo := 0) (n := 64) (fun i σ H' => ∃ v6 v7 : Option V, σ = [some (.ref p), some (.ref a), some (.ref b), some (.ref c), v1, v2, v6, v7] ∧ But2 p ls H H' ∧ H' c = some (.lst (cc.map V.int)) ∧ WinAt C H' p ls { wn with rows := setRows wn.rows 0 ((List.range i).map (chunk cc)) })
        ⟨none, none, rfl, fun b o e _ _ => s2 b o e, ec2, W2⟩ ?_ ?_⟩
      · rintro i σ H' hi ⟨v6, v7, rfl, b3, ec3, W3⟩
        refine ⟨_, rfl, _, _, rfl, rfl, .inr ⟨by decide, by decide⟩, ?_⟩
        refine ⟨_, rfl, _, rfl, _, rfl, _, rfl, _, _, rfl, rfl, _, rfl, c, _, rfl, SqL.of ec3, fun l1 hl1 => ?_⟩
        rw [cut_chunk cc lc hi]
        refine ⟨l1, _, rfl, .inl ⟨SqL.of upd_same, fun t ht => ?_⟩⟩
        have s3 : Same H' (upd (upd H' l1 (.lst ((chunk cc i).map V.int))) t (.tup ((chunk cc i).map V.int))) := ((Same.refl H').laid hl1).laid ht
        have W4 := W3.same s3
        obtain ⟨⟨dx, sp, h1, h2⟩, as, h3, h4, h5⟩ := id W4
        have hn : as.length = 64 := by
          rw [h4]
          show (setRows wn.rows 0 ((List.range i).map (chunk cc))).length = 64
          rw [setRows_length, wok.n]
        have e0 : ((0 : Int) + (i : Int)) = (i : Int) := by omega
        refine ⟨_, rfl, p, C, dx, _, _, rfl, h1, T.cl, T.nS, rfl, _, rfl, ls, _, _, i, rfl, congrArg V.int e0, h3, ixN_of (by rw [List.length_map, hn]; exact hi), ?_⟩
        have W5 := W4.put (j := i) h3 (m := chunk cc i) upd_same
        refine ⟨_, _, rfl, (b3.same s3).updL, ?_, ?_⟩
        · rw [upd_ne ncls]
          exact s3 _ _ ec3
        · have e : setRows wn.rows 0 ((List.range (i + 1)).map (chunk cc)) = (setRows wn.rows 0 ((List.range i).map (chunk cc))).set i (chunk cc i) := by
            rw [List.range_succ, List.map_append, List.map_cons, List.map_nil, setRows_snoc, List.length_map, List.length_range, Nat.zero_add]
          rw [e]
          exact W5
      · rintro σ H3 ⟨v6, v7, rfl, b3, ec3, W3⟩
        rw [setRows_all (by rw [List.length_map, List.length_range, wok.n])] at W3
        -- bell
        refine ⟨_, rfl, _, rfl, _, rfl, c, _, rfl, SqL.of ec3, fun l1 hl1 => ?_⟩
        have e1 : cutV (cc.map V.int) (some 4096) (some 4104) = ((cc.drop 4096).take 8).map V.int := cut_mid V.int cc (a := 4096) (n := 8) (by omega)
        rw [e1]
        refine ⟨l1, _, rfl, .inl (SqL.of upd_same), ?_⟩
        have W4 := W3.same ((Same.refl H3).laid (o := .lst (((cc.drop 4096).take 8).map V.int)) hl1)
        have b4 := b3.same ((Same.refl H3).laid (o := .lst (((cc.drop 4096).take 8).map V.int)) hl1)
        have ec4 := ((Same.refl H3).laid (o := .lst (((cc.drop 4096).take 8).map V.int)) hl1) _ _ ec3
        generalize upd H3 l1 (.lst (((cc.drop 4096).take 8).map V.int)) = H4 at W4 b4 ec4
        obtain ⟨⟨dx, sp, h1, h2⟩, _⟩ := id W4
        refine ⟨_, rfl, p, C, dx, _, rfl, h1, T.cl, T.nB, (by show 4 < 1000; decide), ?_⟩
        rw [put_bell]
        have W5 := W4.fields (dx := dx) (b := val ((cc.drop 4096).take 8)) (c := wn.count) h2
        have b5 := b4.updP (o := .ins C dx (winF ls sp (val ((cc.drop 4096).take 8)) wn.count))
        have ec5 : upd H4 p (.ins C dx (winF ls sp (val ((cc.drop 4096).take 8)) wn.count)) c = some (.lst (cc.map V.int)) := by rw [upd_ne ncp]; exact ec4
        have h5 : upd H4 p (.ins C dx (winF ls sp (val ((cc.drop 4096).take 8)) wn.count)) p = some (.ins C dx (winF ls sp (val ((cc.drop 4096).take 8)) wn.count)) := upd_same
        generalize upd H4 p (.ins C dx (winF ls sp (val ((cc.drop 4096).take 8)) wn.count)) = H5 at W5 b5 ec5 h5
        -- count
        refine ⟨_, rfl, _, rfl, _, rfl, c, _, rfl, SqL.of ec5, fun l2 hl2 => ?_⟩
        have e2 : cutV (cc.map V.int) (some 4104) (some 4112) = ((cc.drop 4104).take 8).map V.int := cut_mid V.int cc (a := 4104) (n := 8) (by omega)
        rw [e2]
        refine ⟨l2, _, rfl, .inl (SqL.of upd_same), ?_⟩
        have s6 := (Same.refl H5).laid (o := .lst (((cc.drop 4104).take 8).map V.int)) hl2
        have W6 := W5.same s6
        have b6 := b5.same s6
        have ec6 := s6 _ _ ec5
        have h6 := s6 _ _ h5
        generalize upd H5 l2 (.lst (((cc.drop 4104).take 8).map V.int)) = H6 at W6 b6 ec6 h6
        obtain ⟨⟨dx6, sp6, g1, g2⟩, _⟩ := id W6
        refine ⟨_, rfl, p, C, dx6, _, rfl, g1, T.cl, T.nC, (by show 4 < 1000; decide), ?_⟩
        rw [put_count]
        have W7 := W6.fields (dx := dx6) (b := val ((cc.drop 4096).take 8)) (c := val ((cc.drop 4104).take 8)) g2
        have b7 := b6.updP (o := .ins C dx6 (winF ls sp6 (val ((cc.drop 4096).take 8)) (val ((cc.drop 4104).take 8))))
        have ec7 : upd H6 p (.ins C dx6 (winF ls sp6 (val ((cc.drop 4096).take 8)) (val ((cc.drop 4104).take 8)))) c = some (.lst (cc.map V.int)) := by rw [upd_ne ncp]; exact ec6
        have h7 : upd H6 p (.ins C dx6 (winF ls sp6 (val ((cc.drop 4096).take 8)) (val ((cc.drop 4104).take 8)))) p = some (.ins C dx6 (winF ls sp6 (val ((cc.drop 4096).take 8)) (val ((cc.drop 4104).take 8)))) := upd_same
        generalize upd H6 p (.ins C dx6 (winF ls sp6 (val ((cc.drop 4096).take 8)) (val ((cc.drop 4104).take 8)))) = H7 at W7 b7 ec7 h7
        -- spare
        refine ⟨_, rfl, _, rfl, c, _, rfl, SqL.of ec7, fun l3 hl3 => ?_⟩
        have e3 : cutV (cc.map V.int) (some 4112) none = (cc.drop 4112).map V.int := cut_from cc (off := 4112) (by omega)
        rw [e3]
        refine ⟨l3, _, rfl, .inl ⟨SqL.of upd_same, fun t ht => ?_⟩⟩
        have s8 := ((Same.refl H7).laid (o := .lst ((cc.drop 4112).map V.int)) hl3).laid (o := .tup ((cc.drop 4112).map V.int)) ht
        have W8 := W7.same s8
        have b8 := b7.same s8
        have h8 := s8 _ _ h7
        have t8 : upd (upd H7 l3 (.lst ((cc.drop 4112).map V.int))) t (.tup ((cc.drop 4112).map V.int)) t = some (.tup ((cc.drop 4112).map V.int)) := upd_same
        generalize upd (upd H7 l3 (.lst ((cc.drop 4112).map V.int))) t (.tup ((cc.drop 4112).map V.int)) = H8 at W8 b8 h8 t8
        refine ⟨_, rfl, p, C, dx6, _, rfl, h8, T.cl, T.nP, (by show 4 < 1000; decide), ?_⟩
        rw [put_spare]
        have W9 := W8.fields (dx := dx6) (b := val ((cc.drop 4096).take 8)) (c := val ((cc.drop 4104).take 8)) t8
        exact ⟨by show 1 ≤ sizeLine; decide, fun q hq => y.end_ W9 b8.updP hq⟩
end
end WP
end
section
set_option Elab.async false
set_option linter.all false
set_option maxRecDepth 100000
set_option maxHeartbeats 4000000
namespace WP
open PySem PySem.Spec PyProof.Rows L2 WW ZS
section
variable {P : Program} {w : World} {K : PySem.W.Frag} {mg : Str → Option Value} {base : Heap}
abbrev sSwap : Stmt := inClass sWin 6
abbrev sTake : Stmt := inClass sWin 7
abbrev sRing : Stmt := inClass sWin 8
abbrev sWhole : Stmt := inClass sWin 9
abbrev sTold : Stmt := inClass sWin 10
/-! ### turned_left -/
def spTurn : Sp := fun vs H Q _ => ∃ z : Int, vs = [.int z] ∧ 0 ≤ z ∧ z < 18446744073709551616 ∧ Q (.int (z * 2 % 18446744073709551616 + z / 9223372036854775808)) H
theorem scTurn : FnScope ["word"] ["word"] (defScope sTurn) := ⟨rfl, rfl, rfl, by decide +kernel, rfl, by decide +kernel, by decide +kernel⟩
theorem ok_turn {f : Addr} {fd : FuncData} (F : Fun K "turned_left" "turned_left" sTurn f fd) (T : Glo mg) : FnOk P w K mg base CX0 1 f fd ["word"] spTurn := by
  refine F.ok scTurn (fun vs H Q E h => ?_) (fun cdv A outer s H vs Q E hr h => ?_)
  · obtain ⟨z, rfl, _⟩ := h
    rfl
  · obtain ⟨z, rfl, z0, z1, q⟩ := h
    refine ⟨_, pss_one (ps_ret (pe_op op_add (pe_op op_mod (pe_op op_shl (pv 0) pe_int) (pgl T.limit)) (pe_op op_shr (pv 0) pe_int))), ?_⟩
    have e1 : (2 : Int) ^ (1 : Int).toNat = 2 := by decide
    have e2 : (2 : Int) ^ (63 : Int).toNat = 9223372036854775808 := by decide
    rw [← e1, ← e2] at q
    exact ⟨_, rfl, _, _, rfl, rfl, ⟨by decide, by decide, by omega⟩, _, _, rfl, rfl, (by show (0 : Int) < 18446744073709551616; decide), _, rfl, _, _, rfl, rfl, (by show (0 : Int) ≤ 63; decide), _, _, rfl, rfl, q⟩
/-! ### check_of -/
theorem cut_word (r : List Int) (hl : r.length = 64) {k : Nat} (hk : k < 8) : cutV (r.map V.int) (some (((0 : Int) + (k : Int)) * 8)) (some (((0 : Int) + (k : Int)) * 8 + 8)) = ((r.drop (8 * k)).take 8).map V.int := by
  have e1 : (((0 : Int) + (k : Int)) * 8) = ((8 * k : Nat) : Int) := by omega
  have e2 : (((0 : Int) + (k : Int)) * 8 + 8) = (((8 * k : Nat) : Int) + ((8 : Nat) : Int)) := by omega
  rw [e2, e1, cut_mid V.int r (by omega)]
def spChk : Sp := fun vs H Q _ => ∃ (t : Addr) (r : List Int), vs = [.ref t] ∧ H t = some (.tup (r.map V.int)) ∧ Row r ∧ ∀ H' : Hp, Same H H' → Q (.int (chk r)) H'
theorem scChk : FnScope ["content", "check", "k", "start", "word"] ["content"] (defScope sChk) := ⟨rfl, rfl, rfl, by decide +kernel, rfl, by decide +kernel, by decide +kernel⟩
theorem ok_chk {f fN fT : Addr} {fd fdN fdT : FuncData} (F : Fun K "check_of" "check_of" sChk f fd) (T : Glo mg) (FN : Fun K "number_from" "number_from" sNum fN fdN) (bN : Binds K fdN ["content"] []) (mN : mg "number_from" = some (.ref fN))
    (FT : Fun K "turned_left" "turned_left" sTurn fT fdT) (bT : Binds K fdT ["word"] []) (mT : mg "turned_left" = some (.ref fT)) : FnOk P w K mg base CX0 2 f fd ["content"] spChk := by
  have GN : FnOk P w K mg base CX0 1 fN fdN ["content"] (spNum K) := ok_num FN T
  have GT : FnOk P w K mg base CX0 1 fT fdT ["word"] spTurn := ok_turn FT T
  refine F.ok scChk (fun vs H Q E h => ?_) (fun cdv A outer s H vs Q E hr h => ?_)
  · obtain ⟨t, r, rfl, _⟩ := h
    rfl
  · obtain ⟨t, r, rfl, ht, hrow, q⟩ := h
    refine ⟨_, pss_cons (ps_set (i := 1) scChk.nd rfl (Or.inl rfl) pe_int)
      (pss_cons (ps_for PassesOwn.never rfl (pi_range1 rfl T.range (pa_cons (pgl T.slotWords) pa_nil)) (pg_name (i := 2) scChk.nd rfl (Or.inl rfl))
        (pss_cons (ps_set (i := 3) scChk.nd rfl (Or.inl rfl) (pe_op op_mul (pv 2) (pgl T.wordBytes)))
        (pss_cons (ps_set (i := 4) scChk.nd rfl (Or.inl rfl) (pe_call GN hr rfl mN FN.kp bN .nil pass0 (pa_cons (pe_slice sl_tupA (pv 0) (po_some (pv 3)) (po_some (pe_op op_add (pv 3) (pgl T.wordBytes)))) pa_nil)))
        (pss_one (ps_set (i := 1) scChk.nd rfl (Or.inl rfl) (pe_op op_mod (pe_op op_add (pe_call GT hr rfl mT FT.kp bT .nil pass0 (pa_cons (pv 1) pa_nil)) (pv 4)) (pgl T.limit)))))))
      (pss_one (ps_ret (pv 1)))), ?_⟩
    refine ⟨8, rfl, by decide, by decide, for_range (lo := 0) (n := 8) (fun i σ H' => ∃ v2 v3 v4 : Option V, σ = [some (.ref t), some (.int (chkTo r i)), v2, v3, v4] ∧ Same H H')
      ⟨none, none, none, rfl, Same.refl H⟩ ?_ ?_⟩
    · rintro i σ H' hi ⟨v2, v3, v4, rfl, s1⟩
      refine ⟨_, rfl, _, _, rfl, rfl, .inr ⟨by decide, by decide⟩, ?_⟩
      refine ⟨_, rfl, _, rfl, _, rfl, _, rfl, _, _, rfl, rfl, _, rfl, t, _, rfl, s1 _ _ ht, fun p H2 s2 e2 => ?_⟩
      rw [cut_word r hrow.1 hi] at e2
      refine ⟨p, _, rfl, .inr (SqT.of e2), ?_⟩
      obtain ⟨c0, c1⟩ := chkTo_bound r i
      refine ⟨_, rfl, _, rfl, c0, c1, _, rfl, _, _, rfl, rfl, _, _, rfl, rfl, (by show (0 : Int) < 18446744073709551616; decide), ?_⟩
      refine ⟨some (.int ((0 : Int) + (i : Int))), some (.int (((0 : Int) + (i : Int)) * 8)), some (.int (val ((r.drop (8 * i)).take 8))), ?_, s1.trans s2⟩
      rw [chkTo_succ, ← turn_eq c0 c1]
      rfl
    · rintro σ H' ⟨v2, v3, v4, rfl, s1⟩
      exact ⟨_, rfl, q H' s1⟩
/-! ### swap -/
def spSwap (C : Addr) : Sp := fun vs H Q _ => ∃ (p ls : Addr) (i j : Int) (w : Win), vs = [.ref p, .int i, .int j] ∧ WOk w ∧ WinAt C H p ls w ∧ 0 ≤ i ∧ 0 ≤ j ∧
  ((64 ≤ i ∨ 64 ≤ j) → Post C H p ls w [-1] Q) ∧ ∀ a b : Nat, i = (a : Int) → j = (b : Int) → a < 64 → b < 64 → Post C H p ls (w.swap a b) [0] Q
theorem scSwap : FnScope ["self", "i", "j", "held"] ["self", "i", "j"] (defScope sSwap) := ⟨rfl, rfl, rfl, by decide +kernel, rfl, by decide +kernel, by decide +kernel⟩
theorem ok_swap {f fS C : Addr} {fd fdS : FuncData} (F : Fun K "swap" "Window.swap" sSwap f fd) (T : WTxt K C) (G : Glo mg) (FS : Fun K "is_slot" "is_slot" sSlot fS fdS) (bS : Binds K fdS ["slot"] []) (mS : mg "is_slot" = some (.ref fS)) :
    FnOk P w K mg base CX0 2 f fd ["self", "i", "j"] (spSwap C) := by
  have GS : FnOk P w K mg base CX0 1 fS fdS ["slot"] spSlot := ok_slot FS G
  refine F.ok scSwap (fun vs H Q E h => ?_) (fun cdv A outer s H vs Q E hr h => ?_)
  · obtain ⟨p, ls, i, j, wn, rfl, _⟩ := h
    rfl
  · obtain ⟨p, ls, i, j, wn, rfl, wok, W, i0, j0, yN, yS⟩ := h
    refine ⟨_, pss_cons (ps_if (PW.pt (pw_or (pt_not (pt_val (pe_call GS hr rfl mS FS.kp bS .nil pass0 (pa_cons (pv 1) pa_nil)))) (pw_or1 (pt_not (pt_val (pe_call GS hr rfl mS FS.kp bS .nil pass0 (pa_cons (pv 2) pa_nil))))))) (pss_one (ps_ret (pe_lst (pa_cons (pgl G.refused) pa_nil)))) pss_nil)
      (pss_cons (ps_set (i := 3) scSwap.nd rfl (Or.inl rfl) (pe_ix ix_list (pe_fld (pv 0) rfl) (pv 1) (fun _ _ => rfl)))
      (pss_cons (ps_asg (pe_ix ix_list (pe_fld (pv 0) rfl) (pv 2) (fun _ _ => rfl)) (pg_sub (pe_fld (pv 0) rfl) (pv 1) set_list))
      (pss_cons (ps_asg (pv 3) (pg_sub (pe_fld (pv 0) rfl) (pv 2) set_list))
      (pss_one (ps_ret (pe_lst (pa_cons (pgl G.done) pa_nil))))))), ?_⟩
    have no : (64 ≤ i ∨ 64 ≤ j) → tRet (tLst (tCons (tC (.int (-1))) tNil)) { nx := fun _ H' => Q .non H', rt := Q } [some (.ref p), some (.int i), some (.int j), none] H := fun hh =>
      ⟨by show 1 ≤ sizeLine; decide, fun r hr' => (yN hh).end_ W (But2.refl p ls H) hr'⟩
    refine ⟨_, rfl, _, rfl, _, rfl, slot_if i0 (fun h => iteT (no (.inl h))) (fun hi => ⟨_, rfl, _, rfl, _, rfl, slot_if j0 (fun h => no (.inr h)) (fun hj => ?_)⟩)⟩
    obtain ⟨a, rfl⟩ := Int.eq_ofNat_of_zero_le i0
    obtain ⟨b, rfl⟩ := Int.eq_ofNat_of_zero_le j0
    have ha : a < 64 := by omega
    have hb : b < 64 := by omega
    obtain ⟨ra, hra, _⟩ := row_at wok ha
    obtain ⟨rb, hrb, rb_row⟩ := row_at wok hb
    obtain ⟨⟨dx, sp, h1, h2⟩, as, h3, h4, h5⟩ := id W
    have hla : a < as.length := by rw [h4, wok.n]; exact ha
    have hlb : b < as.length := by rw [h4, wok.n]; exact hb
    obtain ⟨ta, hta⟩ : ∃ t, as[a]? = some t := ⟨_, List.getElem?_eq_getElem hla⟩
    obtain ⟨tb, htb⟩ : ∃ t, as[b]? = some t := ⟨_, List.getElem?_eq_getElem hlb⟩
    have oa := h5 a ta ra hta hra
    have ob := h5 b tb rb htb hrb
    refine ⟨_, rfl, p, C, dx, _, _, rfl, h1, T.cl, T.nS, rfl, _, rfl, ls, _, _, _, rfl, rfl, SqL.of h3, atI_nat (v := V.ref ta) (by rw [List.getElem?_map, hta]; rfl), ?_⟩
    refine ⟨_, rfl, p, C, dx, _, _, rfl, h1, T.cl, T.nS, rfl, _, rfl, ls, _, _, _, rfl, rfl, SqL.of h3, atI_nat (v := V.ref tb) (by rw [List.getElem?_map, htb]; rfl), ?_⟩
    refine ⟨_, rfl, p, C, dx, _, _, rfl, h1, T.cl, T.nS, rfl, _, rfl, ls, _, _, a, rfl, rfl, h3, ixN_of (by rw [List.length_map]; exact hla), ?_⟩
    have W1 := W.put (j := a) h3 (m := rb) ob
    have b1 : But2 p ls H (upd H ls (.lst ((as.map V.ref).set a (.ref tb)))) := (But2.refl p ls H).updL
    have oa1 : upd H ls (.lst ((as.map V.ref).set a (.ref tb))) ta = some (.tup (ra.map V.int)) := by
      rw [upd_ne (ne_of oa h3 (by intro z; cases z))]
      exact oa
    have e1 : upd H ls (.lst ((as.map V.ref).set a (.ref tb))) ls = some (.lst ((as.map V.ref).set a (.ref tb))) := upd_same
    generalize upd H ls (.lst ((as.map V.ref).set a (.ref tb))) = H1 at W1 b1 oa1 e1
    obtain ⟨⟨dx2, sp2, g1, g2⟩, _⟩ := id W1
    refine ⟨_, rfl, _, rfl, p, C, dx2, _, _, rfl, g1, T.cl, T.nS, rfl, _, rfl, ls, _, _, b, rfl, rfl, e1, ixN_of (by rw [List.length_set, List.length_map]; exact hlb), ?_⟩
    have W2 := W1.put (j := b) e1 (m := ra) oa1
    have e : wn.swap a b = { wn with rows := (wn.rows.set a rb).set b ra } := by
      unfold Win.swap
      rw [List.getD_eq_getElem?_getD, List.getD_eq_getElem?_getD, hra, hrb]
      rfl
    have y := yS a b rfl rfl ha hb
    rw [e] at y
    exact ⟨by show 1 ≤ sizeLine; decide, fun q hq => y.end_ W2 b1.updL hq⟩
/-! ### take -/
def spTake (C : Addr) : Sp := fun vs H Q _ => ∃ (p ls : Addr) (i : Int) (w : Win), vs = [.ref p, .int i] ∧ WOk w ∧ WinAt C H p ls w ∧ 0 ≤ i ∧
  (64 ≤ i → Post C H p ls w [-1] Q) ∧ ∀ a : Nat, i = (a : Int) → a < 64 → Post C H p ls (w.take a) (0 :: (w.rows.getD a [] ++ le8 (chk (w.rows.getD a [])))) Q
theorem scTake : FnScope ["self", "slot", "held"] ["self", "slot"] (defScope sTake) := ⟨rfl, rfl, rfl, by decide +kernel, rfl, by decide +kernel, by decide +kernel⟩
theorem ok_take {f fS fW fK C : Addr} {fd fdS fdW fdK : FuncData} (F : Fun K "take" "Window.take" sTake f fd) (T : WTxt K C) (G : Glo mg) (FS : Fun K "is_slot" "is_slot" sSlot fS fdS) (bS : Binds K fdS ["slot"] []) (mS : mg "is_slot" = some (.ref fS))
    (FW : Fun K "word_bytes" "word_bytes" sWb fW fdW) (bW : Binds K fdW ["word"] []) (mW : mg "word_bytes" = some (.ref fW))
    (bK : Binds K fdK ["content"] []) (mK : mg "check_of" = some (.ref fK)) (kK : PySem.W.keepIn K (.ref fK) = true) (GK : FnOk P w K mg base CX0 2 fK fdK ["content"] spChk) :
    FnOk P w K mg base CX0 3 f fd ["self", "slot"] (spTake C) := by
  have GS : FnOk P w K mg base CX0 2 fS fdS ["slot"] spSlot := (ok_slot FS G).mono (by decide)
  have GW : FnOk P w K mg base CX0 2 fW fdW ["word"] spWb := (ok_wb FW G).mono (by decide)
  refine F.ok scTake (fun vs H Q E h => ?_) (fun cdv A outer s H vs Q E hr h => ?_)
  · obtain ⟨p, ls, i, wn, rfl, _⟩ := h
    rfl
  · obtain ⟨p, ls, i, wn, rfl, wok, W, i0, yN, yS⟩ := h
    refine ⟨_, pss_cons (ps_if (pt_not (pt_val (pe_call GS hr rfl mS FS.kp bS .nil pass0 (pa_cons (pv 1) pa_nil)))) (pss_one (ps_ret (pe_lst (pa_cons (pgl G.refused) pa_nil)))) pss_nil)
      (pss_cons (ps_set (i := 2) scTake.nd rfl (Or.inl rfl) (pe_ix ix_list (pe_fld (pv 0) rfl) (pv 1) (fun _ _ => rfl)))
      (pss_cons (ps_asg (pe_op op_repT (pe_tup (pa_cons pe_int pa_nil)) (pgl G.slotBytes)) (pg_sub (pe_fld (pv 0) rfl) (pv 1) set_list))
      (pss_one (ps_ret (pe_op op_cat (pe_op op_cat (pe_lst (pa_cons (pgl G.done) pa_nil)) (pe_callTy call_list_of rfl G.list boot_list (pa_cons (pv 2) pa_nil)))
        (pe_call GW hr rfl mW FW.kp bW .nil pass0 (pa_cons (pe_call GK hr rfl mK kK bK .nil pass0 (pa_cons (pv 2) pa_nil)) pa_nil))))))), ?_⟩
    refine ⟨_, rfl, _, rfl, _, rfl, slot_if i0 (fun h => ?_) (fun hi => ?_)⟩
    · exact ⟨by show 1 ≤ sizeLine; decide, fun r hr' => (yN h).end_ W (But2.refl p ls H) hr'⟩
    · obtain ⟨a, rfl⟩ := Int.eq_ofNat_of_zero_le i0
      have ha : a < 64 := by omega
      obtain ⟨ra, hra, row⟩ := row_at wok ha
      obtain ⟨⟨dx, sp, h1, h2⟩, as, h3, h4, h5⟩ := id W
      have hla : a < as.length := by rw [h4, wok.n]; exact ha
      obtain ⟨ta, hta⟩ : ∃ t, as[a]? = some t := ⟨_, List.getElem?_eq_getElem hla⟩
      have oa := h5 a ta ra hta hra
      refine ⟨_, rfl, p, C, dx, _, _, rfl, h1, T.cl, T.nS, rfl, _, rfl, ls, _, _, _, rfl, rfl, SqL.of h3, atI_nat (v := V.ref ta) (by rw [List.getElem?_map, hta]; rfl), ?_⟩
      -- (0,) * SLOT_BYTES
      refine ⟨by show 1 ≤ sizeLine; decide, fun t0 ht0 => ?_⟩
      refine ⟨t0, 64, [V.int 0], rfl, rfl, upd_same, by simp, by decide, by decide, by show 1 * 64 ≤ sizeLine; decide, fun t1 ht1 => ?_⟩
      have s1 : Same H (upd (upd H t0 (.tup [V.int 0])) t1 (.tup (List.replicate (64 : Int).toNat [V.int 0]).flatten)) := ((Same.refl H).laid ht0).laid ht1
      have e1 : upd (upd H t0 (.tup [V.int 0])) t1 (.tup (List.replicate (64 : Int).toNat [V.int 0]).flatten) t1 = some (.tup ((List.replicate 64 (0 : Int)).map V.int)) := by
        rw [upd_same, rep_flat, List.map_replicate]
        rfl
      generalize upd (upd H t0 (.tup [V.int 0])) t1 (.tup (List.replicate (64 : Int).toNat [V.int 0]).flatten) = H1 at s1 e1
      have W1 := W.same s1
      refine ⟨_, rfl, p, C, dx, _, _, rfl, s1 _ _ h1, T.cl, T.nS, rfl, _, rfl, ls, _, _, a, rfl, rfl, s1 _ _ h3, ixN_of (by rw [List.length_map]; exact hla), ?_⟩
      have W2 := W1.put (j := a) (s1 _ _ h3) (m := List.replicate 64 0) e1
      have b2 : But2 p ls H (upd H1 ls (.lst ((as.map V.ref).set a (.ref t1)))) := ((But2.refl p ls H).same s1).updL
      have oa2 : upd H1 ls (.lst ((as.map V.ref).set a (.ref t1))) ta = some (.tup (ra.map V.int)) := by
        rw [upd_ne (ne_of oa h3 (by intro z; cases z))]
        exact s1 _ _ oa
      generalize upd H1 ls (.lst ((as.map V.ref).set a (.ref t1))) = H2 at W2 b2 oa2
      -- [DONE] + list(held) + word_bytes(check_of(held))
      refine ⟨by show 1 ≤ sizeLine; decide, fun l1 hl1 => ?_⟩
      have s3 : Same H2 (upd H2 l1 (.lst [V.int 0])) := (Same.refl H2).laid hl1
      refine ⟨_, rfl, ta, _, rfl, .inr (SqT.of (s3 _ _ oa2)), fun l2 hl2 => ?_⟩
      have s4 : Same (upd H2 l1 (.lst [V.int 0])) (upd (upd H2 l1 (.lst [V.int 0])) l2 (.lst (ra.map V.int))) := (Same.refl _).laid hl2
      refine ⟨l1, l2, _, _, rfl, rfl, s4 _ _ upd_same, upd_same, ?_, fun l3 hl3 => ?_⟩
      · rw [List.length_map, row.1]
        show 1 + 64 ≤ sizeLine
        decide
      have s5 := (s3.trans s4).laid (o := .lst ([V.int 0] ++ ra.map V.int)) hl3
      have e5 : upd (upd (upd H2 l1 (.lst [V.int 0])) l2 (.lst (ra.map V.int))) l3 (.lst ([V.int 0] ++ ra.map V.int)) l3 = some (.lst ([V.int 0] ++ ra.map V.int)) := upd_same
      generalize upd (upd (upd H2 l1 (.lst [V.int 0])) l2 (.lst (ra.map V.int))) l3 (.lst ([V.int 0] ++ ra.map V.int)) = H5 at s5 e5
      refine ⟨_, rfl, ta, ra, rfl, s5 _ _ oa2, row, fun H6 s6 => ?_⟩
      refine ⟨_, rfl, (chk_bound ra).1, fun l7 hl7 => ?_⟩
      have s7 : Same H6 (upd H6 l7 (.lst ((le8 (chk ra)).map V.int))) := (Same.refl H6).laid hl7
      refine ⟨l3, l7, _, _, rfl, rfl, s7 _ _ (s6 _ _ e5), upd_same, ?_, fun l8 hl8 => ?_⟩
      · rw [List.length_append, List.length_map, row.1, List.length_map, le8_length]
        show 1 + 64 + 8 ≤ sizeLine
        decide
      have W8 := W2.same ((s5.trans s6).trans s7)
      have b8 := b2.same ((s5.trans s6).trans s7)
      have y := yS a rfl ha
      rw [List.getD_eq_getElem?_getD, hra] at y
      have ev : ([V.int 0] ++ ra.map V.int) ++ (le8 (chk ra)).map V.int = (0 :: (ra ++ le8 (chk ra))).map V.int := by
        rw [List.map_cons, List.map_append, List.append_assoc]
        rfl
      rw [ev]
      exact y.end_ W8 b8 hl8
/-! ### ring -/
def spRing (C : Addr) : Sp := fun vs H Q _ => ∃ (p ls : Addr) (x : Int) (w : Win), vs = [.ref p, .int x] ∧ WinAt C H p ls w ∧ Post C H p ls { w with bell := x } [0] Q
theorem scRing : FnScope ["self", "value"] ["self", "value"] (defScope sRing) := ⟨rfl, rfl, rfl, by decide +kernel, rfl, by decide +kernel, by decide +kernel⟩
theorem ok_ring {f C : Addr} {fd : FuncData} (F : Fun K "ring" "Window.ring" sRing f fd) (T : WTxt K C) (G : Glo mg) : FnOk P w K mg base CX0 1 f fd ["self", "value"] (spRing C) := by
  refine F.ok scRing (fun vs H Q E h => ?_) (fun cdv A outer s H vs Q E hr h => ?_)
  · obtain ⟨p, ls, x, wn, rfl, _⟩ := h
    rfl
  · obtain ⟨p, ls, x, wn, rfl, W, y⟩ := h
    refine ⟨_, pss_cons (ps_fld (pv 0) (pv 1) rfl) (pss_one (ps_ret (pe_lst (pa_cons (pgl G.done) pa_nil)))), ?_⟩
    obtain ⟨⟨dx, sp, h1, h2⟩, _⟩ := id W
    refine ⟨_, rfl, _, rfl, p, C, dx, _, rfl, h1, T.cl, T.nB, (by show 4 < 1000; decide), ?_⟩
    rw [put_bell]
    exact ⟨by show 1 ≤ sizeLine; decide, fun r hr' => y.end_ (W.fields h2) (But2.refl p ls H).updP hr'⟩
/-! ### whole -/
def spWhole (C : Addr) : Sp := fun vs H Q _ => ∃ (p ls : Addr) (w : Win), vs = [.ref p] ∧ WOk w ∧ WinAt C H p ls w ∧ ∀ (H' : Hp) (r : Addr), Same H H' → H r = none → H' r = some (.lst (w.all.map V.int)) → Q (.ref r) H'
theorem scWhole : FnScope ["self", "content", "held"] ["self"] (defScope sWhole) := ⟨rfl, rfl, rfl, by decide +kernel, rfl, by decide +kernel, by decide +kernel⟩
theorem ref_at {as : List Addr} {i : Nat} {y : V} (h : (as.map V.ref)[i]? = some y) : ∃ a, as[i]? = some a ∧ y = V.ref a := by
  rw [List.getElem?_map] at h
  cases e : as[i]? with
  | none => rw [e] at h; cases h
  | some z => rw [e] at h; exact ⟨z, rfl, (Option.some.inj h).symm⟩
theorem flat_take {l : List (List Int)} {i : Nat} {r : List Int} (h : l[i]? = some r) : (l.take (i + 1)).flatten = (l.take i).flatten ++ r := by
  rw [List.take_add_one, h, Option.toList_some, List.flatten_append, List.flatten_cons, List.flatten_nil, List.append_nil]
theorem ok_whole {f fW C : Addr} {fd fdW : FuncData} (F : Fun K "whole" "Window.whole" sWhole f fd) (T : WTxt K C) (G : Glo mg)
    (FW : Fun K "word_bytes" "word_bytes" sWb fW fdW) (bW : Binds K fdW ["word"] []) (mW : mg "word_bytes" = some (.ref fW)) : FnOk P w K mg base CX0 2 f fd ["self"] (spWhole C) := by
  have GW : FnOk P w K mg base CX0 1 fW fdW ["word"] spWb := ok_wb FW G
  refine F.ok scWhole (fun vs H Q E h => ?_) (fun cdv A outer s H vs Q E hr h => ?_)
  · obtain ⟨p, ls, wn, rfl, _⟩ := h
    rfl
  · obtain ⟨p, ls, wn, rfl, wok, W, y⟩ := h
    have hsl : sizeLine = 16777216 := sizeLine_eq
    refine ⟨_, pss_cons (ps_set (i := 1) scWhole.nd rfl (Or.inl rfl) (pe_lst pa_nil))
      (pss_cons (ps_for PassesOwn.never rfl (pi_list (pe_fld (pv 0) rfl)) (pg_name (i := 2) scWhole.nd rfl (Or.inl rfl))
        (pss_one (ps_expr (pe_bm PySem.F.plainAttrs_list PySem.F.slot_list_extend PySem.F.type_list_extend RT.mt_extendT (pv 1) (pa_cons (pv 2) pa_nil)))))
      (pss_one (ps_ret (pe_op op_cat (pe_op op_cat (pe_op op_cat (pv 1) (pe_call GW hr rfl mW FW.kp bW .nil pass0 (pa_cons (pe_fld (pv 0) rfl) pa_nil)))
        (pe_call GW hr rfl mW FW.kp bW .nil pass0 (pa_cons (pe_fld (pv 0) rfl) pa_nil))) (pe_callTy call_list_of rfl G.list boot_list (pa_cons (pe_fld (pv 0) rfl) pa_nil)))))), ?_⟩
    refine ⟨Nat.zero_le _, fun c hc => ?_⟩
    have s1 : Same H (upd H c (.lst [])) := (Same.refl H).laid hc
    have e1 : upd H c (.lst []) c = some (.lst (([] : List Int).map V.int)) := upd_same
    generalize upd H c (.lst []) = H1 at s1 e1
    obtain ⟨⟨dx, sp, h1, h2⟩, as, h3, h4, h5⟩ := id W
    have ncl : ls ≠ c := ne_of_none h3 hc
    refine ⟨_, rfl, p, C, dx, _, _, rfl, s1 _ _ h1, T.cl, T.nS, rfl, ls, rfl, ⟨_, SqL.of (s1 _ _ h3)⟩, for_list (K := K) (a := ls) (xs := as.map V.ref)
      (fun i σ H' => ∃ v : Option V, σ = [some (.ref p), some (.ref c), v] ∧ Same H H' ∧ H' c = some (.lst (((wn.rows.take i).flatten).map V.int)))
      ⟨none, rfl, s1, e1⟩ (fun i σ H' _ ⟨_, _, s2, _⟩ => SqL.of (s2 _ _ h3)) ?_ ?_⟩
    · rintro i x σ H' hx ⟨v, rfl, s2, ec⟩
      obtain ⟨a, ha, rfl⟩ := ref_at hx
      have hi : i < as.length := (List.getElem?_eq_some_iff.mp ha).1
      obtain ⟨r, hr1, hrow⟩ := row_at wok (i := i) (by rw [← wok.n, ← h4]; exact hi)
      have oa := h5 i a r ha hr1
      refine ⟨_, rfl, .inl ⟨rfl, _, SqL.of ec⟩, _, rfl, c, a, _, _, rfl, rfl, ec, SqT.of (s2 _ _ oa), ?_, ?_⟩
      · rw [List.length_map, List.length_map, hrow.1, flatten_len fun q hq => wok.r q (List.mem_of_mem_take hq), List.length_take, wok.n]
        omega
      · refine ⟨_, rfl, s2.own hc, ?_⟩
        rw [upd_same, flat_take hr1, List.map_append]
    · rintro σ H2 ⟨v, rfl, s2, ec⟩
      rw [List.length_map, h4, List.take_length] at ec
      have lf : wn.rows.flatten.length = 4096 := by rw [flatten_len wok.r, wok.n]
      have ls0 := wok.s
      -- content + word_bytes(self.bell)
      refine ⟨_, rfl, _, rfl, p, C, dx, _, _, rfl, s2 _ _ h1, T.cl, T.nB, rfl, wn.bell, rfl, wok.b0, fun d1 hd1 => ?_⟩
      have s3 := s2.laid (o := .lst ((le8 wn.bell).map V.int)) hd1
      have ec3 := ((Same.refl H2).laid (o := .lst ((le8 wn.bell).map V.int)) hd1) _ _ ec
      have ed3 : upd H2 d1 (.lst ((le8 wn.bell).map V.int)) d1 = some (.lst ((le8 wn.bell).map V.int)) := upd_same
      generalize upd H2 d1 (.lst ((le8 wn.bell).map V.int)) = H3 at s3 ec3 ed3
      refine ⟨c, d1, _, _, rfl, rfl, ec3, ed3, ?_, fun m1 hm1 => ?_⟩
      · rw [List.length_map, List.length_map, lf, le8_length]
        omega
      rw [← List.map_append]
      have s4 := s3.laid (o := .lst ((wn.rows.flatten ++ le8 wn.bell).map V.int)) hm1
      have em4 : upd H3 m1 (.lst ((wn.rows.flatten ++ le8 wn.bell).map V.int)) m1 = some (.lst ((wn.rows.flatten ++ le8 wn.bell).map V.int)) := upd_same
      generalize upd H3 m1 (.lst ((wn.rows.flatten ++ le8 wn.bell).map V.int)) = H4 at s4 em4
      -- + word_bytes(self.count)
      refine ⟨_, rfl, p, C, dx, _, _, rfl, s4 _ _ h1, T.cl, T.nC, rfl, wn.count, rfl, wok.c0, fun d2 hd2 => ?_⟩
      have s5 := s4.laid (o := .lst ((le8 wn.count).map V.int)) hd2
      have em5 := ((Same.refl H4).laid (o := .lst ((le8 wn.count).map V.int)) hd2) _ _ em4
      have ed5 : upd H4 d2 (.lst ((le8 wn.count).map V.int)) d2 = some (.lst ((le8 wn.count).map V.int)) := upd_same
      generalize upd H4 d2 (.lst ((le8 wn.count).map V.int)) = H5 at s5 em5 ed5
      refine ⟨m1, d2, _, _, rfl, rfl, em5, ed5, ?_, fun m2 hm2 => ?_⟩
      · rw [List.length_map, List.length_map, List.length_append, lf, le8_length, le8_length]
        omega
      rw [← List.map_append]
      have s6 := s5.laid (o := .lst ((wn.rows.flatten ++ le8 wn.bell ++ le8 wn.count).map V.int)) hm2
      have em6 : upd H5 m2 (.lst ((wn.rows.flatten ++ le8 wn.bell ++ le8 wn.count).map V.int)) m2 = some (.lst ((wn.rows.flatten ++ le8 wn.bell ++ le8 wn.count).map V.int)) := upd_same
      generalize upd H5 m2 (.lst ((wn.rows.flatten ++ le8 wn.bell ++ le8 wn.count).map V.int)) = H6 at s6 em6
      -- + list(self.spare)
      refine ⟨_, rfl, p, C, dx, _, _, rfl, s6 _ _ h1, T.cl, T.nP, rfl, sp, _, rfl, .inr (SqT.of (s6 _ _ h2)), fun d3 hd3 => ?_⟩
      have s7 := s6.laid (o := .lst (wn.spare.map V.int)) hd3
      have em7 := ((Same.refl H6).laid (o := .lst (wn.spare.map V.int)) hd3) _ _ em6
      have ed7 : upd H6 d3 (.lst (wn.spare.map V.int)) d3 = some (.lst (wn.spare.map V.int)) := upd_same
      generalize upd H6 d3 (.lst (wn.spare.map V.int)) = H7 at s7 em7 ed7
      refine ⟨m2, d3, _, _, rfl, rfl, em7, ed7, ?_, fun r hr' => ?_⟩
      · rw [List.length_map, List.length_map, List.length_append, List.length_append, lf, le8_length, le8_length, ls0]
        omega
      refine y _ r (s7.laid hr') (s7.free hr') ?_
      rw [upd_same, ← List.map_append]
      unfold Win.all
      rw [List.append_assoc, List.append_assoc]
/-! ### told -/
def spTold (C : Addr) : Sp := fun vs H Q _ => ∃ (p ls : Addr) (w : Win), vs = [.ref p] ∧ WOk w ∧ WinAt C H p ls w ∧ Post C H p ls w ((num w.all : Int) :: tells 0 w.all) Q
theorem scTold : FnScope ["self", "found", "place", "byte"] ["self"] (defScope sTold) := ⟨rfl, rfl, rfl, by decide +kernel, rfl, by decide +kernel, by decide +kernel⟩
theorem ok_told {f fH C : Addr} {fd fdH : FuncData} (F : Fun K "told" "Window.told" sTold f fd) (T : WTxt K C) (G : Glo mg) (mH : Meth K C "whole" fH) (bH : Binds K fdH ["self"] []) (GH : FnOk P w K mg base CX0 2 fH fdH ["self"] (spWhole C)) :
    FnOk P w K mg base CX0 3 f fd ["self"] (spTold C) := by
  refine F.ok scTold (fun vs H Q E h => ?_) (fun cdv A outer s H vs Q E hr h => ?_)
  · obtain ⟨p, ls, wn, rfl, _⟩ := h
    rfl
  · obtain ⟨p, ls, wn, rfl, wok, W, y⟩ := h
    have hsl : sizeLine = 16777216 := sizeLine_eq
    refine ⟨_, pss_cons (ps_set (i := 1) scTold.nd rfl (Or.inl rfl) (pe_lst pa_nil))
      (pss_cons (ps_for PassesOwn.never rfl (pi_enum rfl G.enumerate (pa_cons (pe_meth0 (pv 0) T.cl mH GH hr bH .nil pass0) pa_nil)) (pg_tup rfl (pgs_cons (pg_name (i := 2) scTold.nd rfl (Or.inl rfl)) (pgs_cons (pg_name (i := 3) scTold.nd rfl (Or.inl rfl)) pgs_nil)))
        (pss_one (ps_if (pt_cmpR op_ne (pv 3) pe_int (nomark _)) (pss_one (ps_expr (pe_bm PySem.F.plainAttrs_list PySem.F.slot_list_extend PySem.F.type_list_extend mt_extend (pv 1) (pa_cons (pe_lst (pa_cons (pv 2) (pa_cons (pv 3) pa_nil))) pa_nil)))) pss_nil)))
      (pss_one (ps_ret (pe_op op_cat (pe_lst (pa_cons (pe_op op_fdiv (pe_callB call_len_seq rfl G.len PySem.boot_len (pa_cons (pv 1) pa_nil)) pe_int) pa_nil)) (pv 1))))), ?_⟩
    refine ⟨Nat.zero_le _, fun c hc => ?_⟩
    have s1 : Same H (upd H c (.lst [])) := (Same.refl H).laid hc
    have e1 : upd H c (.lst []) c = some (.lst (([] : List Int).map V.int)) := upd_same
    generalize upd H c (.lst []) = H1 at s1 e1
    have W1 := W.same s1
    obtain ⟨⟨dx, sp, h1, h2⟩, _⟩ := id W1
    refine ⟨_, rfl, p, dx, _, rfl, h1, rfl, p, ls, wn, rfl, wok, W1, fun H2 l s2 nl el => ?_⟩
    have len := wok.len
    have ncl : l ≠ c := Ne.symm (ne_of_none e1 nl)
    refine ⟨l, _, rfl, SqL.of el, RT.for_enum (K := K) (a := l) (xs := wn.all.map V.int)
      (fun i σ H' => ∃ v2 v3 : Option V, σ = [some (.ref p), some (.ref c), v2, v3] ∧ Same H H' ∧ H' l = some (.lst (wn.all.map V.int)) ∧ H' c = some (.lst ((tells 0 (wn.all.take i)).map V.int)))
      ⟨none, none, rfl, s1.trans s2, el, s2 _ _ e1⟩ (fun i σ H' _ ⟨_, _, _, _, e, _⟩ => SqL.of e) ?_ ?_⟩
    · rintro i x t σ H' hx ht ⟨v2, v3, rfl, s3, el3, ec3⟩
      obtain ⟨z, hz, rfl⟩ := map_at hx
      have hi : i < wn.all.length := (List.getElem?_eq_some_iff.mp hz).1
      refine ⟨t, _, rfl, SqT.of upd_same, rfl, _, _, rfl, _, _, rfl, rfl, ?_⟩
      have nct : c ≠ t := ne_of_none ec3 ht
      have nlt : l ≠ t := ne_of_none el3 ht
      have s4 := s3.laid (o := .tup [V.int (i : Nat), V.int z]) ht
      have ec4 : upd H' t (.tup [V.int (i : Nat), V.int z]) c = some (.lst ((tells 0 (wn.all.take i)).map V.int)) := by rw [upd_ne nct]; exact ec3
      have el4 : upd H' t (.tup [V.int (i : Nat), V.int z]) l = some (.lst (wn.all.map V.int)) := by rw [upd_ne nlt]; exact el3
      generalize upd H' t (.tup [V.int (i : Nat), V.int z]) = H4 at s4 ec4 el4
      have stp := tells_take hz
      refine ⟨_, rfl, rfl, _, rfl, ite2 (fun hb => ?_) (fun hb => ?_)⟩
      · have hne : ¬ z = 0 := fun e => by
          subst e
          simp at hb
        rw [if_neg hne] at stp
        refine ⟨_, rfl, .inl ⟨rfl, _, SqL.of ec4⟩, _, rfl, _, rfl, by show 2 ≤ sizeLine; decide, fun u hu => ?_⟩
        have ncu : c ≠ u := ne_of_none ec4 hu
        have nlu : l ≠ u := ne_of_none el4 hu
        refine ⟨c, u, _, _, rfl, rfl, by rw [upd_ne ncu]; exact ec4, upd_same, ?_, ?_⟩
        · rw [List.length_map, tells_len]
          have := num_le (wn.all.take i)
          rw [List.length_take] at this
          show 2 * num (wn.all.take i) + 2 ≤ sizeLine
          omega
        · refine ⟨_, _, rfl, (s4.laid hu).own hc, ?_, ?_⟩
          · rw [upd_ne ncl, upd_ne nlu]
            exact el4
          · rw [upd_same, stp, List.map_append]
            rfl
      · have he : z = 0 := by
          by_cases e : z = 0
          · exact e
          · exact absurd (by simp [e]) hb
        rw [if_pos he, List.append_nil] at stp
        refine ⟨_, _, rfl, s4, el4, ?_⟩
        rw [stp]
        exact ec4
    · rintro σ H3 ⟨v2, v3, rfl, s3, el3, ec3⟩
      rw [List.length_map, List.take_length] at ec3
      refine ⟨_, rfl, c, _, rfl, .inl (SqL.of ec3), _, _, rfl, rfl, ⟨by show (0 : Int) < 2; decide, by show (2 : Int) < 1073741824; decide⟩, by show 1 ≤ sizeLine; decide, fun u hu => ?_⟩
      have ncu : c ≠ u := ne_of_none ec3 hu
      have eh : (((tells 0 wn.all).map V.int).length : Int) / 2 = (num wn.all : Int) := by rw [List.length_map, tells_half]
      have ev : (fun i j : Int => V.int (i / j)) (((tells 0 wn.all).map V.int).length : Int) 2 = V.int (num wn.all : Int) := congrArg V.int eh
      rw [ev]
      have s4 := s3.laid (o := .lst [V.int (num wn.all : Int)]) hu
      have ec4 : upd H3 u (.lst [V.int (num wn.all : Int)]) c = some (.lst ((tells 0 wn.all).map V.int)) := by rw [upd_ne ncu]; exact ec3
      have eu4 : upd H3 u (.lst [V.int (num wn.all : Int)]) u = some (.lst [V.int (num wn.all : Int)]) := upd_same
      generalize upd H3 u (.lst [V.int (num wn.all : Int)]) = H4 at s4 ec4 eu4
      refine ⟨_, rfl, u, c, _, _, rfl, rfl, eu4, ec4, ?_, fun r hr' => ?_⟩
      · rw [List.length_map, tells_len]
        have := num_le wn.all
        show 1 + 2 * num wn.all ≤ sizeLine
        omega
      · exact y.end_ (W.same s4) ((But2.refl p ls H).same s4) hr'
end
end WP
end
section
set_option Elab.async false
set_option linter.all false
set_option maxRecDepth 100000
set_option maxHeartbeats 4000000
namespace WP
open PySem PySem.Spec PyProof.Rows L2 WW ZS
/-! ### a call read off the list -/
theorem drop_cons {ns l : List Int} {k : Nat} {x : Int} (h : ns.drop k = x :: l) : ns[k]? = some x ∧ ns.drop (k + 1) = l := by
  refine ⟨?_, ?_⟩
  · have := congrArg (fun l => l[0]?) h
    simpa using this
  · rw [← List.drop_drop, h]
    rfl
theorem drop_app {ns m l : List Int} {k : Nat} (h : ns.drop k = m ++ l) : ns.drop (k + m.length) = l := by
  rw [← List.drop_drop, h, List.drop_left' rfl]
structure Rs (K : PySem.W.Frag) (CW CR : Addr) (H0 H : Hp) (p ls q a : Addr) (ns : List Int) (w : Win) (k : Nat) (l : List Int) : Prop where
  W : WinAt CW H p ls w
  R : RdAt CR H q a k
  S : SqL K H a (ns.map V.int)
  n : p ≠ q
  d : ns.drop k = l
  b : But q H0 H
section
variable {K : PySem.W.Frag} {CW CR : Addr} {H0 H : Hp} {p ls q a : Addr} {ns : List Int} {w : Win} {k : Nat} {l : List Int}
theorem Rs.step {H' : Hp} {k' : Nat} {l' : List Int} (s : Rs K CW CR H0 H p ls q a ns w k l) (r : RdAt CR H' q a k') (b : But q H H') (d : ns.drop k' = l') : Rs K CW CR H0 H' p ls q a ns w k' l' :=
  ⟨s.W.but b s.R.ins s.n, r, b.seq s.R.ins s.S, s.n, d, s.b.trans b⟩
theorem Rs.num {x : Int} {σ : L2.St} {i : Nat} {Q : VK} (s : Rs K CW CR H0 H p ls q a ns w k (x :: l)) (hi : σ[i]? = some (some (.ref q))) (h : ∀ H', Rs K CW CR H0 H' p ls q a ns w (k + 1) l → But q H H' → Q (.int x) H') :
    tMeth CR "number" (spNumber K CR) [] E0 (tVar i) tNil σ H Q := by
  obtain ⟨dx, hq⟩ := id s.R
  obtain ⟨h1, h2⟩ := drop_cons s.d
  exact ⟨_, hi, q, dx, _, rfl, hq, rfl, q, a, k, ns, x, rfl, s.R, s.S, h1, fun H' r b => h H' (s.step r b h2) b⟩
theorem Rs.row {m : List Int} {σ : L2.St} {i : Nat} {Q : VK} (s : Rs K CW CR H0 H p ls q a ns w k ((m.length : Int) :: (m ++ l))) (hm : m.length ≤ 1000000) (hi : σ[i]? = some (some (.ref q)))
    (h : ∀ (H' : Hp) (r : Addr), Rs K CW CR H0 H' p ls q a ns w (k + 1 + m.length) l → But q H H' → H r = none → H' r = some (.lst (m.map V.int)) → Q (.ref r) H') :
    tMeth CR "row" (spRow K CR) [] E0 (tVar i) tNil σ H Q := by
  obtain ⟨dx, hq⟩ := id s.R
  obtain ⟨h1, h2⟩ := drop_cons s.d
  exact ⟨_, hi, q, dx, _, rfl, hq, rfl, q, a, k, ns, m, l, rfl, s.R, s.S, s.d, hm, fun H' r rd b n e => h H' r (s.step rd b (drop_app h2)) b n e⟩
end
/-- all but p, ls, q -/
def But3 (p ls q : Addr) (H H' : Hp) : Prop := ∀ b o, H b = some o → b ≠ p → b ≠ ls → b ≠ q → H' b = some o
/-- behind a method of the window -/
theorem Rs.post {K : PySem.W.Frag} {CW CR : Addr} {H0 H : Hp} {p ls q a : Addr} {ns : List Int} {w w' : Win} {k : Nat} {l : List Int} {ans : List Int} {Q : VK} (s : Rs K CW CR H0 H p ls q a ns w k l)
    (h : ∀ (H' : Hp) (r : Addr), WinAt CW H' p ls w' → RdAt CR H' q a k → But3 p ls q H0 H' → H0 r = none → H' r = some (.lst (ans.map V.int)) → Q (.ref r) H') : Post CW H p ls w' ans Q := by
  intro H' r W b n e
  obtain ⟨dx, hq⟩ := id s.R
  obtain ⟨_, as, h3, _⟩ := id s.W
  have nql : q ≠ ls := ne_of hq h3 (by intro z; cases z)
  refine h H' r W ⟨dx, b _ _ hq (Ne.symm s.n) nql⟩ (fun c o e n1 n2 n3 => b c o (s.b c o e n3) n1 n2) ?_ e
  cases e2 : H0 r with
  | none => rfl
  | some o =>
    by_cases hr : r = q
    · rw [hr, hq] at n
      cases n
    · rw [s.b r o e2 hr] at n
      cases n
def spNext (K : PySem.W.Frag) (CW CR : Addr) : Sp := fun vs H Q _ => ∃ (p ls q a : Addr) (k : Nat) (w : Win) (ns rest : List Int) (c : List (List Int)), vs = [.ref p, .ref q] ∧ WOk w ∧ Rs K CW CR H H p ls q a ns w k (PyFlat.put1 c ++ rest) ∧ CallOk c ∧
  ∀ (H' : Hp) (r : Addr) (w' : Win) (ans : List Int), Sd05Neutral.step w.flat (PySd05.whole c) = (w'.flat, ans) → WOk w' → WinAt CW H' p ls w' → RdAt CR H' q a (k + (PyFlat.put1 c).length) → But3 p ls q H H' → H r = none → H' r = some (.lst (ans.map V.int)) → Q (.ref r) H'
section
variable {P : Program} {w : World} {K : PySem.W.Frag} {mg : Str → Option Value} {base : Heap}
theorem scNext : FnScope ["window", "reader", "call", "places", "slot", "off", "n", "x", "source", "to", "i"] ["window", "reader"] (defScope sNext) := ⟨rfl, rfl, rfl, by decide +kernel, rfl, by decide +kernel, by decide +kernel⟩
theorem nat_of {i : Int} (h : 0 ≤ i) : ∃ j : Nat, i = (j : Int) := Int.eq_ofNat_of_zero_le h
structure Meths (P : Program) (w : World) (K : PySem.W.Frag) (mg : Str → Option Value) (base : Heap) (CW CR : Addr) : Prop where
  tw : WTxt K CW
  tr : RTxt K CR
  number : ∃ f fd, Meth K CR "number" f ∧ Binds K fd ["self"] [] ∧ FnOk P w K mg base CX0 3 f fd ["self"] (spNumber K CR)
  row : ∃ f fd, Meth K CR "row" f ∧ Binds K fd ["self"] [] ∧ FnOk P w K mg base CX0 3 f fd ["self"] (spRow K CR)
  begin_ : ∃ f fd, Meth K CW "begin" f ∧ Binds K fd ["self", "places", "given"] [] ∧ FnOk P w K mg base CX0 3 f fd ["self", "places", "given"] (spBegin CW)
  send : ∃ f fd, Meth K CW "send" f ∧ Binds K fd ["self", "slot", "message"] [] ∧ FnOk P w K mg base CX0 3 f fd ["self", "slot", "message"] (spSend CW)
  patch : ∃ f fd, Meth K CW "patch" f ∧ Binds K fd ["self", "slot", "off", "given"] [] ∧ FnOk P w K mg base CX0 3 f fd ["self", "slot", "off", "given"] (spPatch CW)
  fill : ∃ f fd, Meth K CW "fill" f ∧ Binds K fd ["self", "slot", "n", "x", "step"] [] ∧ FnOk P w K mg base CX0 3 f fd ["self", "slot", "n", "x", "step"] (spFill CW)
  move : ∃ f fd, Meth K CW "move" f ∧ Binds K fd ["self", "source", "to", "n"] [] ∧ FnOk P w K mg base CX0 3 f fd ["self", "source", "to", "n"] (spMove CW)
  swap : ∃ f fd, Meth K CW "swap" f ∧ Binds K fd ["self", "i", "j"] [] ∧ FnOk P w K mg base CX0 3 f fd ["self", "i", "j"] (spSwap CW)
  take : ∃ f fd, Meth K CW "take" f ∧ Binds K fd ["self", "slot"] [] ∧ FnOk P w K mg base CX0 3 f fd ["self", "slot"] (spTake CW)
  ring : ∃ f fd, Meth K CW "ring" f ∧ Binds K fd ["self", "value"] [] ∧ FnOk P w K mg base CX0 3 f fd ["self", "value"] (spRing CW)
  told : ∃ f fd, Meth K CW "told" f ∧ Binds K fd ["self"] [] ∧ FnOk P w K mg base CX0 3 f fd ["self"] (spTold CW)
theorem ok_next {f CW CR : Addr} {fd : FuncData} (F : Fun K "answer_next" "answer_next" sNext f fd) (G : Glo mg) (M : Meths P w K mg base CW CR) : FnOk P w K mg base CX0 4 f fd ["window", "reader"] (spNext K CW CR) := by
  obtain ⟨fN, dN, mN, bN, gN⟩ := M.number
  obtain ⟨fR, dR, mR, bR, gR⟩ := M.row
  obtain ⟨fB, dB, mB, bB, gB⟩ := M.begin_
  obtain ⟨fS, dS, mS, bS, gS⟩ := M.send
  obtain ⟨fP, dP, mP, bP, gP⟩ := M.patch
  obtain ⟨fF, dF, mF, bF, gF⟩ := M.fill
  obtain ⟨fM, dM, mM, bM, gM⟩ := M.move
  obtain ⟨fW, dW, mW, bW, gW⟩ := M.swap
  obtain ⟨fT, dT, mT, bT, gT⟩ := M.take
  obtain ⟨fG, dG, mG, bG, gG⟩ := M.ring
  obtain ⟨fD, dD, mD, bD, gD⟩ := M.told
  have tw := M.tw
  have tr := M.tr
  refine F.ok scNext (fun vs H Q E h => ?_) (fun cdv A outer s H vs Q E hr h => ?_)
  · obtain ⟨p, ls, q, a, k, wn, ns, rest, c, rfl, _⟩ := h
    rfl
  · obtain ⟨p, ls, q, a, k, wn, ns, rest, c, rfl, wok, R0, hc, y⟩ := h
    refine ⟨_, pss_cons (ps_set (i := 2) scNext.nd rfl (Or.inl rfl) (pe_meth0 (pv 1) tr.cl mN gN hr bN .nil pass0))
      (pss_cons (ps_if (pt_cmpR op_eq (pv 2) (pgl G.begin_) (nomark _))
        (pss_cons (ps_set (i := 3) scNext.nd rfl (Or.inl rfl) (pe_meth0 (pv 1) tr.cl mR gR hr bR .nil pass0))
        (pss_one (ps_ret (pe_meth (pv 0) tw.cl mB gB hr bB .nil pass0 (pa_cons (pv 3) (pa_cons (pe_meth0 (pv 1) tr.cl mR gR hr bR .nil pass0) pa_nil)))))) pss_nil)
      (pss_cons (ps_if (pt_cmpR op_eq (pv 2) (pgl G.send) (nomark _))
        (pss_cons (ps_set (i := 4) scNext.nd rfl (Or.inl rfl) (pe_meth0 (pv 1) tr.cl mN gN hr bN .nil pass0))
        (pss_one (ps_ret (pe_meth (pv 0) tw.cl mS gS hr bS .nil pass0 (pa_cons (pv 4) (pa_cons (pe_meth0 (pv 1) tr.cl mR gR hr bR .nil pass0) pa_nil)))))) pss_nil)
      (pss_cons (ps_if (pt_cmpR op_eq (pv 2) (pgl G.patch) (nomark _))
        (pss_cons (ps_set (i := 4) scNext.nd rfl (Or.inl rfl) (pe_meth0 (pv 1) tr.cl mN gN hr bN .nil pass0))
        (pss_cons (ps_set (i := 5) scNext.nd rfl (Or.inl rfl) (pe_meth0 (pv 1) tr.cl mN gN hr bN .nil pass0))
        (pss_one (ps_ret (pe_meth (pv 0) tw.cl mP gP hr bP .nil pass0 (pa_cons (pv 4) (pa_cons (pv 5) (pa_cons (pe_meth0 (pv 1) tr.cl mR gR hr bR .nil pass0) pa_nil)))))))) pss_nil)
      (pss_cons (ps_if (pt_cmpR op_eq (pv 2) (pgl G.fill) (nomark _))
        (pss_cons (ps_set (i := 4) scNext.nd rfl (Or.inl rfl) (pe_meth0 (pv 1) tr.cl mN gN hr bN .nil pass0))
        (pss_cons (ps_set (i := 6) scNext.nd rfl (Or.inl rfl) (pe_meth0 (pv 1) tr.cl mN gN hr bN .nil pass0))
        (pss_cons (ps_set (i := 7) scNext.nd rfl (Or.inl rfl) (pe_meth0 (pv 1) tr.cl mN gN hr bN .nil pass0))
        (pss_one (ps_ret (pe_meth (pv 0) tw.cl mF gF hr bF .nil pass0 (pa_cons (pv 4) (pa_cons (pv 6) (pa_cons (pv 7) (pa_cons (pe_meth0 (pv 1) tr.cl mN gN hr bN .nil pass0) pa_nil)))))))))) pss_nil)
      (pss_cons (ps_if (pt_cmpR op_eq (pv 2) (pgl G.move) (nomark _))
        (pss_cons (ps_set (i := 8) scNext.nd rfl (Or.inl rfl) (pe_meth0 (pv 1) tr.cl mN gN hr bN .nil pass0))
        (pss_cons (ps_set (i := 9) scNext.nd rfl (Or.inl rfl) (pe_meth0 (pv 1) tr.cl mN gN hr bN .nil pass0))
        (pss_one (ps_ret (pe_meth (pv 0) tw.cl mM gM hr bM .nil pass0 (pa_cons (pv 8) (pa_cons (pv 9) (pa_cons (pe_meth0 (pv 1) tr.cl mN gN hr bN .nil pass0) pa_nil)))))))) pss_nil)
      (pss_cons (ps_if (pt_cmpR op_eq (pv 2) (pgl G.swap) (nomark _))
        (pss_cons (ps_set (i := 10) scNext.nd rfl (Or.inl rfl) (pe_meth0 (pv 1) tr.cl mN gN hr bN .nil pass0))
        (pss_one (ps_ret (pe_meth (pv 0) tw.cl mW gW hr bW .nil pass0 (pa_cons (pv 10) (pa_cons (pe_meth0 (pv 1) tr.cl mN gN hr bN .nil pass0) pa_nil)))))) pss_nil)
      (pss_cons (ps_if (pt_cmpR op_eq (pv 2) (pgl G.take) (nomark _))
        (pss_one (ps_ret (pe_meth (pv 0) tw.cl mT gT hr bT .nil pass0 (pa_cons (pe_meth0 (pv 1) tr.cl mN gN hr bN .nil pass0) pa_nil)))) pss_nil)
      (pss_cons (ps_if (pt_cmpR op_eq (pv 2) (pgl G.rings) (nomark _))
        (pss_one (ps_ret (pe_meth (pv 0) tw.cl mG gG hr bG .nil pass0 (pa_cons (pe_meth0 (pv 1) tr.cl mN gN hr bN .nil pass0) pa_nil)))) pss_nil)
      (pss_cons (ps_if (pt_cmpR op_eq (pv 2) (pgl G.told) (nomark _))
        (pss_one (ps_ret (pe_meth0 (pv 0) tw.cl mD gD hr bD .nil pass0))) pss_nil)
      (pss_one ps_never)))))))))), ?_⟩
    cases hc with
    | begin_ ps bs hp hl hn hb =>
      have e : PyFlat.put1 [[0], ps, bs] ++ rest = 0 :: ((ps.length : Int) :: (ps ++ ((bs.length : Int) :: (bs ++ rest)))) := by simp [PyFlat.put1, PyFlat.putRows, PyFlat.putRow]
      rw [e] at R0
      refine R0.num rfl fun H1 R1 _ => ?_
      refine ⟨_, rfl, rfl, _, rfl, iteT ?_⟩
      refine R1.row (by omega) rfl fun H2 r2 R2 b2 n2 e2 => ?_
      obtain ⟨⟨dx, sp, h1, h2⟩, _⟩ := id R2.W
      refine ⟨_, rfl, p, dx, _, rfl, h1, rfl, _, rfl, R2.row (by omega) rfl fun H3 r3 R3 b3 n3 e3 => ?_⟩
      have n2q : r2 ≠ q := fun z => by
        obtain ⟨dx1, hq⟩ := R1.R
        rw [z, hq] at n2
        cases n2
      have n2l : r2 ≠ ls := fun z => by
        obtain ⟨_, as, h3, _⟩ := R1.W
        rw [z, h3] at n2
        cases n2
      have n3l : r3 ≠ ls := fun z => by
        obtain ⟨_, as, h3, _⟩ := R2.W
        rw [z, h3] at n3
        cases n3
      obtain ⟨st, wo⟩ := st_begin (s := wn.flat) (p := ps) hb
      refine ⟨p, ls, r2, r3, wn, ps, bs, rfl, wok, R3.W, b3 _ _ e2 n2q, e3, n2l, n3l, hp, hl, R3.post fun H4 r4 W4 rd4 b4 n4 e4 => ?_⟩
      have ek : k + 1 + 1 + ps.length + 1 + bs.length = k + (PyFlat.put1 [[0], ps, bs]).length := by
        simp [PyFlat.put1, PyFlat.putRows, PyFlat.putRow]
        omega
      rw [ek] at rd4
      exact y H4 r4 _ _ st wo W4 rd4 b4 n4 e4
    | send i m h0 hm =>
      have e : PyFlat.put1 [[1, i], m] ++ rest = 1 :: (i :: ((m.length : Int) :: (m ++ rest))) := by simp [PyFlat.put1, PyFlat.putRows, PyFlat.putRow]
      have hml := hm.1
      rw [e] at R0
      refine R0.num rfl fun H1 R1 _ => ?_
      refine ⟨_, rfl, rfl, _, rfl, iteF ⟨_, rfl, rfl, _, rfl, iteT ?_⟩⟩
      refine R1.num rfl fun H2 R2 _ => ?_
      obtain ⟨⟨dx, sp, h1, h2⟩, _⟩ := id R2.W
      refine ⟨_, rfl, p, dx, _, rfl, h1, rfl, _, rfl, R2.row (by omega) rfl fun H3 r3 R3 b3 n3 e3 => ?_⟩
      have ek : k + 1 + 1 + 1 + m.length = k + (PyFlat.put1 [[1, i], m]).length := by
        simp [PyFlat.put1, PyFlat.putRows, PyFlat.putRow]
        omega
      refine ⟨p, ls, r3, i, wn, m, rfl, wok, R3.W, h0, e3, fun h => R3.post fun H4 r4 W4 rd4 b4 n4 e4 => ?_, fun j ej hj => R3.post fun H4 r4 W4 rd4 b4 n4 e4 => ?_⟩
      · rw [ek] at rd4
        exact y H4 r4 _ _ (st_send_no h) wok W4 rd4 b4 n4 e4
      · rw [ek] at rd4
        subst ej
        obtain ⟨st, wo⟩ := st_send wok hj hm
        exact y H4 r4 _ _ st wo W4 rd4 b4 n4 e4
    | patch i off m h0 h1 hm hl =>
      have e : PyFlat.put1 [[2, i, off], m] ++ rest = 2 :: (i :: (off :: ((m.length : Int) :: (m ++ rest)))) := by simp [PyFlat.put1, PyFlat.putRows, PyFlat.putRow]
      rw [e] at R0
      refine R0.num rfl fun H1 R1 _ => ?_
      refine ⟨_, rfl, rfl, _, rfl, iteF ⟨_, rfl, rfl, _, rfl, iteF ⟨_, rfl, rfl, _, rfl, iteT ?_⟩⟩⟩
      refine R1.num rfl fun H2 R2 _ => R2.num rfl fun H3 R3 _ => ?_
      obtain ⟨⟨dx, sp, g1, g2⟩, _⟩ := id R3.W
      refine ⟨_, rfl, p, dx, _, rfl, g1, rfl, _, rfl, _, rfl, R3.row (by omega) rfl fun H4 r4 R4 b4 n4 e4 => ?_⟩
      have ek : k + 1 + 1 + 1 + 1 + m.length = k + (PyFlat.put1 [[2, i, off], m]).length := by
        simp [PyFlat.put1, PyFlat.putRows, PyFlat.putRow]
        omega
      refine ⟨p, ls, r4, i, off, wn, m, rfl, wok, R4.W, h0, h1, e4, hl, fun h => R4.post fun H5 r5 W5 rd5 b5 n5 e5 => ?_, fun j o ej eo hj ho => R4.post fun H5 r5 W5 rd5 b5 n5 e5 => ?_⟩
      · rw [ek] at rd5
        exact y H5 r5 _ _ (st_patch_no h1 h) wok W5 rd5 b5 n5 e5
      · rw [ek] at rd5
        subst ej
        subst eo
        obtain ⟨st, wo⟩ := st_patch wok hj hm ho
        exact y H5 r5 _ _ st wo W5 rd5 b5 n5 e5
    | fill i n x st h0 hx hx1 hs hs1 =>
      have e : PyFlat.put1 [[3, i, n, x, st]] ++ rest = 3 :: (i :: (n :: (x :: (st :: rest)))) := by simp [PyFlat.put1, PyFlat.putRows, PyFlat.putRow]
      rw [e] at R0
      refine R0.num rfl fun H1 R1 _ => ?_
      refine ⟨_, rfl, rfl, _, rfl, iteF ⟨_, rfl, rfl, _, rfl, iteF ⟨_, rfl, rfl, _, rfl, iteF ⟨_, rfl, rfl, _, rfl, iteT ?_⟩⟩⟩⟩
      refine R1.num rfl fun H2 R2 _ => R2.num rfl fun H3 R3 _ => R3.num rfl fun H4 R4 _ => ?_
      obtain ⟨⟨dx, sp, g1, g2⟩, _⟩ := id R4.W
      refine ⟨_, rfl, p, dx, _, rfl, g1, rfl, _, rfl, _, rfl, _, rfl, R4.num rfl fun H5 R5 _ => ?_⟩
      have ek : k + 1 + 1 + 1 + 1 + 1 = k + (PyFlat.put1 [[3, i, n, x, st]]).length := by
        simp [PyFlat.put1, PyFlat.putRows, PyFlat.putRow]
      refine ⟨p, ls, i, n, x, st, wn, rfl, wok, R5.W, h0, hs, hs1, fun h => R5.post fun H6 r6 W6 rd6 b6 n6 e6 => ?_, fun j m ej em hj => R5.post fun H6 r6 W6 rd6 b6 n6 e6 => ?_⟩
      · rw [ek] at rd6
        exact y H6 r6 _ _ (st_fill_no h0 h) wok W6 rd6 b6 n6 e6
      · rw [ek] at rd6
        subst ej
        subst em
        obtain ⟨st, wo⟩ := st_fill wok hj hx hs
        exact y H6 r6 _ _ st wo W6 rd6 b6 n6 e6
    | move i j n h0 h1 =>
      have e : PyFlat.put1 [[4, i, j, n]] ++ rest = 4 :: (i :: (j :: (n :: rest))) := by simp [PyFlat.put1, PyFlat.putRows, PyFlat.putRow]
      rw [e] at R0
      refine R0.num rfl fun H1 R1 _ => ?_
      refine ⟨_, rfl, rfl, _, rfl, iteF ⟨_, rfl, rfl, _, rfl, iteF ⟨_, rfl, rfl, _, rfl, iteF ⟨_, rfl, rfl, _, rfl, iteF ⟨_, rfl, rfl, _, rfl, iteT ?_⟩⟩⟩⟩⟩
      refine R1.num rfl fun H2 R2 _ => R2.num rfl fun H3 R3 _ => ?_
      obtain ⟨⟨dx, sp, g1, g2⟩, _⟩ := id R3.W
      refine ⟨_, rfl, p, dx, _, rfl, g1, rfl, _, rfl, _, rfl, R3.num rfl fun H4 R4 _ => ?_⟩
      have ek : k + 1 + 1 + 1 + 1 = k + (PyFlat.put1 [[4, i, j, n]]).length := by
        simp [PyFlat.put1, PyFlat.putRows, PyFlat.putRow]
      refine ⟨p, ls, i, j, n, wn, rfl, wok, R4.W, h0, h1, fun h => R4.post fun H6 r6 W6 rd6 b6 n6 e6 => ?_, fun a' b' m ea eb em ha hb => R4.post fun H6 r6 W6 rd6 b6 n6 e6 => ?_⟩
      · rw [ek] at rd6
        exact y H6 r6 _ _ (st_move_no h0 h1 h) wok W6 rd6 b6 n6 e6
      · rw [ek] at rd6
        subst ea
        subst eb
        subst em
        obtain ⟨st, wo⟩ := st_move wok ha hb
        exact y H6 r6 _ _ st wo W6 rd6 b6 n6 e6
    | swap i j h0 h1 =>
      have e : PyFlat.put1 [[5, i, j]] ++ rest = 5 :: (i :: (j :: rest)) := by simp [PyFlat.put1, PyFlat.putRows, PyFlat.putRow]
      rw [e] at R0
      refine R0.num rfl fun H1 R1 _ => ?_
      refine ⟨_, rfl, rfl, _, rfl, iteF ⟨_, rfl, rfl, _, rfl, iteF ⟨_, rfl, rfl, _, rfl, iteF ⟨_, rfl, rfl, _, rfl, iteF ⟨_, rfl, rfl, _, rfl, iteF ⟨_, rfl, rfl, _, rfl, iteT ?_⟩⟩⟩⟩⟩⟩
      refine R1.num rfl fun H2 R2 _ => ?_
      obtain ⟨⟨dx, sp, g1, g2⟩, _⟩ := id R2.W
      refine ⟨_, rfl, p, dx, _, rfl, g1, rfl, _, rfl, R2.num rfl fun H3 R3 _ => ?_⟩
      have ek : k + 1 + 1 + 1 = k + (PyFlat.put1 [[5, i, j]]).length := by
        simp [PyFlat.put1, PyFlat.putRows, PyFlat.putRow]
      refine ⟨p, ls, i, j, wn, rfl, wok, R3.W, h0, h1, fun h => R3.post fun H6 r6 W6 rd6 b6 n6 e6 => ?_, fun a' b' ea eb ha hb => R3.post fun H6 r6 W6 rd6 b6 n6 e6 => ?_⟩
      · rw [ek] at rd6
        exact y H6 r6 _ _ (st_swap_no h) wok W6 rd6 b6 n6 e6
      · rw [ek] at rd6
        subst ea
        subst eb
        obtain ⟨st, wo⟩ := st_swap wok ha hb
        exact y H6 r6 _ _ st wo W6 rd6 b6 n6 e6
    | take i h0 =>
      have e : PyFlat.put1 [[6, i]] ++ rest = 6 :: (i :: rest) := by simp [PyFlat.put1, PyFlat.putRows, PyFlat.putRow]
      rw [e] at R0
      refine R0.num rfl fun H1 R1 _ => ?_
      refine ⟨_, rfl, rfl, _, rfl, iteF ⟨_, rfl, rfl, _, rfl, iteF ⟨_, rfl, rfl, _, rfl, iteF ⟨_, rfl, rfl, _, rfl, iteF ⟨_, rfl, rfl, _, rfl, iteF ⟨_, rfl, rfl, _, rfl, iteF ⟨_, rfl, rfl, _, rfl, iteT ?_⟩⟩⟩⟩⟩⟩⟩
      obtain ⟨⟨dx, sp, g1, g2⟩, _⟩ := id R1.W
      refine ⟨_, rfl, p, dx, _, rfl, g1, rfl, R1.num rfl fun H3 R3 _ => ?_⟩
      have ek : k + 1 + 1 = k + (PyFlat.put1 [[6, i]]).length := by
        simp [PyFlat.put1, PyFlat.putRows, PyFlat.putRow]
      refine ⟨p, ls, i, wn, rfl, wok, R3.W, h0, fun h => R3.post fun H6 r6 W6 rd6 b6 n6 e6 => ?_, fun a' ea ha => R3.post fun H6 r6 W6 rd6 b6 n6 e6 => ?_⟩
      · rw [ek] at rd6
        exact y H6 r6 _ _ (st_take_no h) wok W6 rd6 b6 n6 e6
      · rw [ek] at rd6
        subst ea
        obtain ⟨st, wo⟩ := st_take wok ha
        exact y H6 r6 _ _ st wo W6 rd6 b6 n6 e6
    | bell x h0 h1 =>
      have e : PyFlat.put1 [[7, x]] ++ rest = 7 :: (x :: rest) := by simp [PyFlat.put1, PyFlat.putRows, PyFlat.putRow]
      rw [e] at R0
      refine R0.num rfl fun H1 R1 _ => ?_
      refine ⟨_, rfl, rfl, _, rfl, iteF ⟨_, rfl, rfl, _, rfl, iteF ⟨_, rfl, rfl, _, rfl, iteF ⟨_, rfl, rfl, _, rfl, iteF ⟨_, rfl, rfl, _, rfl, iteF ⟨_, rfl, rfl, _, rfl, iteF ⟨_, rfl, rfl, _, rfl, iteF ⟨_, rfl, rfl, _, rfl, iteT ?_⟩⟩⟩⟩⟩⟩⟩⟩
      obtain ⟨⟨dx, sp, g1, g2⟩, _⟩ := id R1.W
      refine ⟨_, rfl, p, dx, _, rfl, g1, rfl, R1.num rfl fun H3 R3 _ => ?_⟩
      have ek : k + 1 + 1 = k + (PyFlat.put1 [[7, x]]).length := by
        simp [PyFlat.put1, PyFlat.putRows, PyFlat.putRow]
      refine ⟨p, ls, x, wn, rfl, R3.W, R3.post fun H6 r6 W6 rd6 b6 n6 e6 => ?_⟩
      rw [ek] at rd6
      obtain ⟨st, wo⟩ := st_bell wok h0 h1
      exact y H6 r6 _ _ st wo W6 rd6 b6 n6 e6
    | told =>
      have e : PyFlat.put1 [[8]] ++ rest = 8 :: rest := by simp [PyFlat.put1, PyFlat.putRows, PyFlat.putRow]
      rw [e] at R0
      refine R0.num rfl fun H1 R1 _ => ?_
      refine ⟨_, rfl, rfl, _, rfl, iteF ⟨_, rfl, rfl, _, rfl, iteF ⟨_, rfl, rfl, _, rfl, iteF ⟨_, rfl, rfl, _, rfl, iteF ⟨_, rfl, rfl, _, rfl, iteF ⟨_, rfl, rfl, _, rfl, iteF ⟨_, rfl, rfl, _, rfl, iteF ⟨_, rfl, rfl, _, rfl, iteF ⟨_, rfl, rfl, _, rfl, iteT ?_⟩⟩⟩⟩⟩⟩⟩⟩⟩
      obtain ⟨⟨dx, sp, g1, g2⟩, _⟩ := id R1.W
      have ek : k + 1 = k + (PyFlat.put1 [[8]]).length := by
        simp [PyFlat.put1, PyFlat.putRows, PyFlat.putRow]
      refine ⟨_, rfl, p, dx, _, rfl, g1, rfl, p, ls, wn, rfl, wok, R1.W, R1.post fun H6 r6 W6 rd6 b6 n6 e6 => ?_⟩
      rw [ek] at rd6
      exact y H6 r6 _ _ (st_told wok) wok W6 rd6 b6 n6 e6
end
end WP
end
section
set_option Elab.async false
set_option linter.all false
set_option maxRecDepth 100000
set_option maxHeartbeats 4000000
namespace WP
open PySem PySem.Spec PyProof.Rows L2 WW ZS
theorem put1_pos {c : List (List Int)} (h : CallOk c) : 0 < (PyFlat.put1 c).length := by
  cases h <;> simp [PyFlat.put1]
theorem WinAt.updF {C : Addr} {H : Hp} {p ls f : Addr} {w : Win} {xs ys : List V} (W : WinAt C H p ls w) (hf : H f = some (.lst xs)) (n : f ≠ ls) : WinAt C (upd H f (.lst ys)) p ls w := by
  obtain ⟨⟨dx, sp, h1, h2⟩, as, h3, h4, h5⟩ := W
  have nt : ∀ (b : Addr) (zs : List V), H b = some (.tup zs) → b ≠ f := fun b zs e => ne_of e hf (by intro z; cases z)
  refine ⟨⟨dx, sp, ?_, ?_⟩, as, ?_, h4, fun j a r e1 e2 => ?_⟩
  · rw [upd_ne (ne_of h1 hf (by intro z; cases z))]
    exact h1
  · rw [upd_ne (nt _ _ h2)]
    exact h2
  · rw [upd_ne (Ne.symm n)]
    exact h3
  · rw [upd_ne (nt _ _ (h5 j a r e1 e2))]
    exact h5 j a r e1 e2
theorem sql_keep {K : PySem.W.Frag} {H H' : Hp} {a : Addr} {xs : List V} (h : SqL K H a xs) (k : ∀ o, H a = some o → H' a = some o) : SqL K H' a xs := by
  rcases h with (h | ⟨o, h⟩) | h
  · exact .inl (.inl (k _ h))
  · exact .inl (.inr ⟨o, k _ h⟩)
  · exact .inr h
/-- the list handed in, as it stays readable: an object of the module, or one that is tracked and is none of l -/
def Kp (K : PySem.W.Frag) (H : Hp) (a : Addr) (xs : List V) (l : List Addr) : Prop := (∀ H' : Hp, SqL K H' a xs) ∨ ∃ o, H a = some o ∧ (∀ H' : Hp, H' a = some o → SqL K H' a xs) ∧ ∀ b ∈ l, a ≠ b
theorem Kp.of {K : PySem.W.Frag} {H : Hp} {a : Addr} {xs : List V} (h : SqL K H a xs) : Kp K H a xs [] := by
  rcases h with (h | ⟨o, h⟩) | h
  · exact .inr ⟨_, h, fun H' e => .inl (.inl e), fun b m => by cases m⟩
  · exact .inr ⟨_, h, fun H' e => .inl (.inr ⟨o, e⟩), fun b m => by cases m⟩
  · exact .inl fun H' => .inr h
theorem Kp.sq {K : PySem.W.Frag} {H : Hp} {a : Addr} {xs : List V} {l : List Addr} (h : Kp K H a xs l) : SqL K H a xs := by
  rcases h with h | ⟨o, e, h, _⟩
  · exact h H
  · exact h H e
theorem Kp.add {K : PySem.W.Frag} {H : Hp} {a b : Addr} {xs : List V} {l : List Addr} (h : Kp K H a xs l) (hb : H b = none) : Kp K H a xs (b :: l) := by
  rcases h with h | ⟨o, e, h, n⟩
  · exact .inl h
  · refine .inr ⟨o, e, h, fun c m => ?_⟩
    rcases List.mem_cons.mp m with rfl | m
    · exact ne_of_none e hb
    · exact n c m
theorem Kp.keep {K : PySem.W.Frag} {H H' : Hp} {a : Addr} {xs : List V} {l : List Addr} (h : Kp K H a xs l) (k : ∀ o, H a = some o → (∀ b ∈ l, a ≠ b) → H' a = some o) : Kp K H' a xs l := by
  rcases h with h | ⟨o, e, h, n⟩
  · exact .inl h
  · exact .inr ⟨o, k o e n, h, n⟩
def spIn (K : PySem.W.Frag) (CW CR : Addr) : Sp := fun vs H Q _ => ∃ (p ls a : Addr) (w : Win) (ns : List Int) (cs : List (List (List Int))), vs = [.ref p, .ref a] ∧ WOk w ∧ WinAt CW H p ls w ∧ Kp K H a (ns.map V.int) [ls, p] ∧ ns = PyFlat.put cs ∧ (∀ c ∈ cs, CallOk c) ∧ (rest w cs).length ≤ 2000000 ∧
  ∀ (H' : Hp) (f : Addr), H' f = some (.lst ((rest w cs).map V.int)) → Q (.ref f) H'
abbrev sIn' : Stmt := sIn
section
variable {P : Program} {w : World} {K : PySem.W.Frag} {mg : Str → Option Value} {base : Heap}
theorem scIn : FnScope ["window", "calls", "reader", "found", "answer"] ["window", "calls"] (defScope sIn) := ⟨rfl, rfl, rfl, by decide +kernel, rfl, by decide +kernel, by decide +kernel⟩
theorem ok_in {f fI fE fX CW CR : Addr} {fd dI dE dX : FuncData} (F : Fun K "answers_in" "answers_in" sIn f fd) (G : Glo mg) (tr : RTxt K CR) (mR : mg "Reader" = some (.ref CR)) (MR : Mk K CR fI) (bI : Binds K dI ["self", "calls"] []) (gI : FnOk P w K mg base CX0 1 fI dI ["self", "calls"] (spRInit CR))
    (mE : Meth K CR "at_end" fE) (bE : Binds K dE ["self"] []) (gE : FnOk P w K mg base CX0 4 fE dE ["self"] (spAtEnd K CR))
    (mX : mg "answer_next" = some (.ref fX)) (kX : PySem.W.keepIn K (.ref fX) = true) (bX : Binds K dX ["window", "reader"] []) (gX : FnOk P w K mg base CX0 4 fX dX ["window", "reader"] (spNext K CW CR)) :
    FnOk P w K mg base CX0 5 f fd ["window", "calls"] (spIn K CW CR) := by
  refine F.ok scIn (fun vs H Q E h => ?_) (fun cdv A outer s H vs Q E hr h => ?_)
  · obtain ⟨p, ls, a, wn, ns, cs, rfl, _⟩ := h
    rfl
  · obtain ⟨p, ls, a, wn, ns, cs, rfl, wok, W, S, ens, hcs, hlen, y⟩ := h
    have hsl : sizeLine = 16777216 := sizeLine_eq
    have hr2 : Room 2 _ := hr.mono (by decide)
    refine ⟨_, pss_cons (ps_set (i := 2) scIn.nd rfl (Or.inl rfl) (pe_make MR gI hr2 rfl mR bI .nil pass0 (pa_cons (pv 1) pa_nil)))
      (pss_cons (ps_set (i := 3) scIn.nd rfl (Or.inl rfl) (pe_lst pa_nil))
      (pss_cons (ps_while PassesOwn.never (pt_not (pt_val (pe_meth0 (pv 2) tr.cl mE gE hr bE .nil pass0)))
        (pss_cons (ps_set (i := 4) scIn.nd rfl (Or.inl rfl) (pe_call gX hr rfl mX kX bX .nil pass0 (pa_cons (pv 0) (pa_cons (pv 2) pa_nil))))
        (pss_cons (ps_expr (pe_bm PySem.F.plainAttrs_list PySem.F.slot_list_append PySem.F.type_list_append mt_append (pv 3) (pa_cons (pe_callB call_len_seq rfl G.len PySem.boot_len (pa_cons (pv 4) pa_nil)) pa_nil)))
        (pss_one (ps_expr (pe_bm PySem.F.plainAttrs_list PySem.F.slot_list_extend PySem.F.type_list_extend mt_extend (pv 3) (pa_cons (pv 4) pa_nil)))))))
      (pss_one (ps_ret (pv 3))))), ?_⟩
    refine ⟨_, rfl, fun q dx nq nd ndq => ?_⟩
    refine ⟨q, dx, a, rfl, upd_same, fun H1 R1 b1 => ⟨rfl, ?_⟩⟩
    have s1 : Same H H1 := Same.made nq nd b1
    have npq : p ≠ q := by
      obtain ⟨⟨dx0, sp, h1, _⟩, _⟩ := W
      exact ne_of_none h1 nq
    refine ⟨Nat.zero_le _, fun f0 hf0 => ?_⟩
    have s2 : Same H (upd H1 f0 (.lst [])) := s1.laid hf0
    have R2 : RdAt CR (upd H1 f0 (.lst [])) q a 0 := by
      obtain ⟨dx1, e⟩ := R1
      exact ⟨dx1, by rw [upd_ne (ne_of_none e hf0)]; exact e⟩
    have nfl : f0 ≠ ls := by
      obtain ⟨_, as, h3, _⟩ := W
      exact Ne.symm (ne_of_none (s1 _ _ h3) hf0)
    have e2 : upd H1 f0 (.lst []) f0 = some (.lst (([] : List Int).map V.int)) := upd_same
    have S2 : Kp K (upd H1 f0 (.lst [])) a (ns.map V.int) [f0, q, ls, p] := (((S.add nq).keep fun o e _ => s1 _ _ e).add hf0).keep fun o e n => by
      rw [upd_ne (n f0 List.mem_cons_self)]
      exact e
    have W2 := W.same s2
    generalize upd H1 f0 (.lst []) = H2 at s2 R2 e2 S2 W2
    -- the loop
    refine ⟨fun m σ H' => ∃ (v : Option V) (k : Nat) (wn' : Win) (cs' : List (List (List Int))) (done : List Int), m = cs'.length ∧ σ = [some (.ref p), some (.ref a), some (.ref q), some (.ref f0), v] ∧ WOk wn' ∧ Rs K CW CR H' H' p ls q a ns wn' k (PyFlat.put cs') ∧ k + (PyFlat.put cs').length = ns.length ∧
        (∀ c ∈ cs', CallOk c) ∧ H' f0 = some (.lst (done.map V.int)) ∧ done ++ rest wn' cs' = rest wn cs ∧ Kp K H' a (ns.map V.int) [f0, q, ls, p],
      ⟨_, none, 0, wn, cs, [], rfl, rfl, wok, ⟨W2, R2, S2.sq, npq, by rw [ens]; rfl, But.refl q H2⟩, by rw [ens, Nat.zero_add], hcs, e2, rfl, S2⟩, ?_⟩
    rintro m σ H' ⟨v, k, wn', cs', done, rfl, rfl, wok', R, hk, hcs', ef, ed, ka⟩
    obtain ⟨dxq, hq⟩ := id R.R
    refine ⟨_, rfl, q, dxq, _, rfl, hq, rfl, q, a, k, ns, rfl, R.R, R.S, _, rfl, ?_⟩
    cases cs' with
    | nil =>
      have ek : k = ns.length := by simpa [PyFlat.put] using hk
      rw [decide_eq_true ek]
      refine iteF ⟨_, rfl, y H' f0 ?_⟩
      rw [ef]
      rw [rest_nil, List.append_nil] at ed
      rw [ed]
    | cons c cs' =>
      have hc := hcs' c List.mem_cons_self
      have hp := put1_pos hc
      have epl : PyFlat.put (c :: cs') = PyFlat.put1 c ++ PyFlat.put cs' := rfl
      have nk : ¬ k = ns.length := by
        rw [epl, List.length_append] at hk
        omega
      rw [decide_eq_false nk]
      refine iteT ⟨_, fun σ' H'' h => h, ?_⟩
      refine ⟨_, rfl, _, rfl, p, ls, q, a, k, wn', ns, PyFlat.put cs', c, rfl, wok', R, hc, fun H4 r w4 ans st wo W4 rd4 b4 n4 e4 => ?_⟩
      have nfp : f0 ≠ p := by
        obtain ⟨⟨dx0, sp, h1, _⟩, _⟩ := R.W
        exact ne_of ef h1 (by intro z; cases z)
      have nfq : f0 ≠ q := ne_of ef hq (by intro z; cases z)
      have ef4 := b4 _ _ ef nfp nfl nfq
      have nfr : f0 ≠ r := ne_of_none ef n4
      have erest := rest_cons st cs'
      have hlen2 := congrArg List.length ed
      rw [erest, List.length_append, List.length_cons, List.length_append] at hlen2
      -- found.append(len(answer))
      refine ⟨_, rfl, .inl ⟨rfl, _, SqL.of ef4⟩, _, rfl, r, _, rfl, .inl (SqL.of e4), f0, _, _, rfl, rfl, ef4, by rw [List.length_map]; omega, ?_⟩
      rw [List.length_map]
      have e5 : upd H4 f0 (.lst (done.map V.int ++ [V.int (ans.length : Nat)])) r = some (.lst (ans.map V.int)) := by rw [upd_ne (Ne.symm nfr)]; exact e4
      -- found.extend(answer)
      refine ⟨_, rfl, .inl ⟨rfl, _, SqL.of upd_same⟩, _, rfl, f0, r, _, _, rfl, rfl, upd_same, e5, by rw [List.length_append, List.length_map, List.length_map]; show done.length + 1 + ans.length ≤ _; omega, ?_⟩
      rw [upd_upd]
      have ka5 : Kp K (upd H4 f0 (.lst (done.map V.int ++ [V.int (ans.length : Nat)] ++ ans.map V.int))) a (ns.map V.int) [f0, q, ls, p] := ka.keep fun o e n => by
        rw [upd_ne (n f0 (by simp))]
        exact b4 _ _ e (n p (by simp)) (n ls (by simp)) (n q (by simp))
      refine ⟨cs'.length, Nat.lt_succ_self _, _, k + (PyFlat.put1 c).length, w4, cs', done ++ (ans.length : Int) :: ans, rfl, rfl, wo, ⟨W4.updF ef4 nfl, ?_, ka5.sq, npq, ?_, But.refl q _⟩, ?_, fun c' m => hcs' c' (List.mem_cons_of_mem _ m), ?_, ?_, ka5⟩
      · obtain ⟨dx4, rd4⟩ := rd4
        exact ⟨dx4, by rw [upd_ne (Ne.symm nfq)]; exact rd4⟩
      · exact drop_app (by rw [← epl]; exact R.d)
      · rw [epl, List.length_append] at hk
        omega
      · rw [upd_same, List.map_append, List.append_assoc]
        rfl
      · rw [← ed, erest, List.append_assoc]
        rfl
def spAns (K : PySem.W.Frag) : Sp := fun vs H Q _ => ∃ (a : Addr) (ns : List Int), vs = [.ref a] ∧ SqL K H a (ns.map V.int) ∧ PySd05.answers_asked ns = true ∧ ∀ (H' : Hp) (r : Addr), H' r = some (.lst ((PySd05.answers ns).map V.int)) → Q (.ref r) H'
theorem scAns : FnScope ["calls"] ["calls"] (defScope sAns) := ⟨rfl, rfl, rfl, by decide +kernel, rfl, by decide +kernel, by decide +kernel⟩
theorem ok_ans {f fI fN CW CR : Addr} {fd dI dN : FuncData} (F : Fun K "answers" "answers" sAns f fd) (mW : mg "Window" = some (.ref CW)) (MW : Mk K CW fI) (bI : Binds K dI ["self"] []) (gI : FnOk P w K mg base CX0 1 fI dI ["self"] (spWInit CW))
    (mN : mg "answers_in" = some (.ref fN)) (kN : PySem.W.keepIn K (.ref fN) = true) (bN : Binds K dN ["window", "calls"] []) (gN : FnOk P w K mg base CX0 5 fN dN ["window", "calls"] (spIn K CW CR)) : FnOk P w K mg base CX0 6 f fd ["calls"] (spAns K) := by
  refine F.ok scAns (fun vs H Q E h => ?_) (fun cdv A outer s H vs Q E hr h => ?_)
  · obtain ⟨a, ns, rfl, _⟩ := h
    rfl
  · obtain ⟨a, ns, rfl, S, hask, y⟩ := h
    have hr2 : Room 2 _ := hr.mono (by decide)
    refine ⟨_, pss_one (ps_ret (pe_call gN hr rfl mN kN bN .nil pass0 (pa_cons (pe_make0 MW gI hr2 rfl mW bI .nil pass0) (pa_cons (pv 0) pa_nil)))), ?_⟩
    intro p dx np nd ndp
    refine ⟨p, dx, rfl, upd_same, fun H1 ls W1 b1 nls => ⟨rfl, ?_⟩⟩
    obtain ⟨cs, e1, e2, e3, e4⟩ := asked_inv hask
    have s1 : Same H H1 := Same.made np nd b1
    have nls' : H ls = none := by
      cases e : H ls with
      | none => rfl
      | some o =>
        rw [upd_ne (ne_of_none e np), upd_ne (ne_of_none e nd), e] at nls
        cases nls
    have S1 : Kp K H1 a (ns.map V.int) [ls, p] := (((Kp.of S).add np).add nls').keep fun o e _ => s1 _ _ e
    refine ⟨_, rfl, p, ls, a, win0, ns, cs, rfl, win0_ok, W1, S1, e1, e2, by omega, fun H' f e => ?_⟩
    refine y H' f ?_
    rw [e3]
    exact e
end
end WP
end
section
set_option Elab.async false
set_option linter.all false
set_option maxRecDepth 100000
set_option maxHeartbeats 8000000
namespace WP
open PySem PySem.Spec PyProof.Rows L2 WW ZS
open PySem.W (Codec)
theorem all_mk {P : Program} {w : World} {K : PySem.W.Frag} {h : Heap} {mg : Str → Option Value} {fa CW CR fSl fNu fWb fFi fTl fCk fWI fBe fSe fPa fFl fMo fSw fTk fRg fWh fTo fRI fAe fNb fRo fNx fIn fAn : Addr} (X : K.In h) (G : h.Ns mainGlobals mg) (hfa : mg "answers" = some (.ref fa))
    {odSl anSl odNu anNu odWb anWb odFi anFi odTl anTl odCk anCk odWI anWI odBe anBe odSe anSe odPa anPa odFl anFl odMo anMo odSw anSw odTk anTk odRg anRg odWh anWh odTo anTo odRI anRI odAe anAe odNb anNb odRo anRo odNx anNx odIn anIn odAn anAn : Option Addr} {slSl slNu slWb slFi slTl slCk slWI slBe slSe slPa slFl slMo slSw slTk slRg slWh slTo slRI slAe slNb slRo slNx slIn slAn : Array (Option Value)} {ocSl kVSl dcSl pmSl cdSl ctSl ocNu kVNu dcNu pmNu cdNu ctNu ocWb kVWb dcWb pmWb cdWb ctWb ocFi kVFi dcFi pmFi cdFi ctFi ocTl kVTl dcTl pmTl cdTl ctTl ocCk kVCk dcCk pmCk cdCk ctCk ocWI kVWI dcWI pmWI cdWI ctWI ocBe kVBe dcBe pmBe cdBe ctBe ocSe kVSe dcSe pmSe cdSe ctSe ocPa kVPa dcPa pmPa cdPa ctPa ocFl kVFl dcFl pmFl cdFl ctFl ocMo kVMo dcMo pmMo cdMo ctMo ocSw kVSw dcSw pmSw cdSw ctSw ocTk kVTk dcTk pmTk cdTk ctTk ocRg kVRg dcRg pmRg cdRg ctRg ocWh kVWh dcWh pmWh cdWh ctWh ocTo kVTo dcTo pmTo cdTo ctTo ocRI kVRI dcRI pmRI cdRI ctRI ocAe kVAe dcAe pmAe cdAe ctAe ocNb kVNb dcNb pmNb cdNb ctNb ocRo kVRo dcRo pmRo cdRo ctRo ocNx kVNx dcNx pmNx cdNx ctNx ocIn kVIn dcIn pmIn cdIn ctIn ocAn kVAn dcAn pmAn cdAn ctAn : Value} {t0 t1 t2 t3 t4 t5 t6 t7 t8 t9 t10 t11 t12 t13 t14 t15 t16 t17 t18 t19 t20 : Tok}
    (aCW : PySem.W.nsIn K mainGlobals "Window" = some (some (.ref CW)))
    (aCR : PySem.W.nsIn K mainGlobals "Reader" = some (some (.ref CR)))
    (aSl : PySem.W.nsIn K mainGlobals "is_slot" = some (some (.ref fSl)))
    (lSl : K.lookup fSl = some ⟨ocSl, odSl, .func (PySem.W.fnOf "is_slot" "is_slot" (defArgs sSlot) (defBody sSlot) (defScope sSlot) .none kVSl dcSl pmSl anSl cdSl ctSl), slSl⟩)
    (cSl : PySem.W.codeIn K cdSl "is_slot" = true)
    (kSl : PySem.W.keepIn K (.ref fSl) = true)
    (aNu : PySem.W.nsIn K mainGlobals "number_from" = some (some (.ref fNu)))
    (lNu : K.lookup fNu = some ⟨ocNu, odNu, .func (PySem.W.fnOf "number_from" "number_from" (defArgs sNum) (defBody sNum) (defScope sNum) .none kVNu dcNu pmNu anNu cdNu ctNu), slNu⟩)
    (cNu : PySem.W.codeIn K cdNu "number_from" = true)
    (kNu : PySem.W.keepIn K (.ref fNu) = true)
    (aWb : PySem.W.nsIn K mainGlobals "word_bytes" = some (some (.ref fWb)))
    (lWb : K.lookup fWb = some ⟨ocWb, odWb, .func (PySem.W.fnOf "word_bytes" "word_bytes" (defArgs sWb) (defBody sWb) (defScope sWb) .none kVWb dcWb pmWb anWb cdWb ctWb), slWb⟩)
    (cWb : PySem.W.codeIn K cdWb "word_bytes" = true)
    (kWb : PySem.W.keepIn K (.ref fWb) = true)
    (aFi : PySem.W.nsIn K mainGlobals "filled_slot" = some (some (.ref fFi)))
    (lFi : K.lookup fFi = some ⟨ocFi, odFi, .func (PySem.W.fnOf "filled_slot" "filled_slot" (defArgs sFil) (defBody sFil) (defScope sFil) .none kVFi dcFi pmFi anFi cdFi ctFi), slFi⟩)
    (cFi : PySem.W.codeIn K cdFi "filled_slot" = true)
    (kFi : PySem.W.keepIn K (.ref fFi) = true)
    (aTl : PySem.W.nsIn K mainGlobals "turned_left" = some (some (.ref fTl)))
    (lTl : K.lookup fTl = some ⟨ocTl, odTl, .func (PySem.W.fnOf "turned_left" "turned_left" (defArgs sTurn) (defBody sTurn) (defScope sTurn) .none kVTl dcTl pmTl anTl cdTl ctTl), slTl⟩)
    (cTl : PySem.W.codeIn K cdTl "turned_left" = true)
    (kTl : PySem.W.keepIn K (.ref fTl) = true)
    (aCk : PySem.W.nsIn K mainGlobals "check_of" = some (some (.ref fCk)))
    (lCk : K.lookup fCk = some ⟨ocCk, odCk, .func (PySem.W.fnOf "check_of" "check_of" (defArgs sChk) (defBody sChk) (defScope sChk) .none kVCk dcCk pmCk anCk cdCk ctCk), slCk⟩)
    (cCk : PySem.W.codeIn K cdCk "check_of" = true)
    (kCk : PySem.W.keepIn K (.ref fCk) = true)
    (aWI : PySem.W.findIn K (.ref CW) "__init__" = some (some (.ref fWI)))
    (iWI : PySem.W.isFn K (.ref fWI) = true)
    (lWI : K.lookup fWI = some ⟨ocWI, odWI, .func (PySem.W.fnOf "__init__" "Window.__init__" (defArgs sWInit) (defBody sWInit) (defScope sWInit) .none kVWI dcWI pmWI anWI cdWI ctWI), slWI⟩)
    (cWI : PySem.W.codeIn K cdWI "Window.__init__" = true)
    (kWI : PySem.W.keepIn K (.ref fWI) = true)
    (aBe : PySem.W.findIn K (.ref CW) "begin" = some (some (.ref fBe)))
    (iBe : PySem.W.isFn K (.ref fBe) = true)
    (lBe : K.lookup fBe = some ⟨ocBe, odBe, .func (PySem.W.fnOf "begin" "Window.begin" (defArgs sBegin) (defBody sBegin) (defScope sBegin) .none kVBe dcBe pmBe anBe cdBe ctBe), slBe⟩)
    (cBe : PySem.W.codeIn K cdBe "Window.begin" = true)
    (kBe : PySem.W.keepIn K (.ref fBe) = true)
    (aSe : PySem.W.findIn K (.ref CW) "send" = some (some (.ref fSe)))
    (iSe : PySem.W.isFn K (.ref fSe) = true)
    (lSe : K.lookup fSe = some ⟨ocSe, odSe, .func (PySem.W.fnOf "send" "Window.send" (defArgs sSend) (defBody sSend) (defScope sSend) .none kVSe dcSe pmSe anSe cdSe ctSe), slSe⟩)
    (cSe : PySem.W.codeIn K cdSe "Window.send" = true)
    (kSe : PySem.W.keepIn K (.ref fSe) = true)
    (aPa : PySem.W.findIn K (.ref CW) "patch" = some (some (.ref fPa)))
    (iPa : PySem.W.isFn K (.ref fPa) = true)
    (lPa : K.lookup fPa = some ⟨ocPa, odPa, .func (PySem.W.fnOf "patch" "Window.patch" (defArgs sPatch) (defBody sPatch) (defScope sPatch) .none kVPa dcPa pmPa anPa cdPa ctPa), slPa⟩)
    (cPa : PySem.W.codeIn K cdPa "Window.patch" = true)
    (kPa : PySem.W.keepIn K (.ref fPa) = true)
    (aFl : PySem.W.findIn K (.ref CW) "fill" = some (some (.ref fFl)))
    (iFl : PySem.W.isFn K (.ref fFl) = true)
    (lFl : K.lookup fFl = some ⟨ocFl, odFl, .func (PySem.W.fnOf "fill" "Window.fill" (defArgs sFill) (defBody sFill) (defScope sFill) .none kVFl dcFl pmFl anFl cdFl ctFl), slFl⟩)
    (cFl : PySem.W.codeIn K cdFl "Window.fill" = true)
    (kFl : PySem.W.keepIn K (.ref fFl) = true)
    (aMo : PySem.W.findIn K (.ref CW) "move" = some (some (.ref fMo)))
    (iMo : PySem.W.isFn K (.ref fMo) = true)
    (lMo : K.lookup fMo = some ⟨ocMo, odMo, .func (PySem.W.fnOf "move" "Window.move" (defArgs sMove) (defBody sMove) (defScope sMove) .none kVMo dcMo pmMo anMo cdMo ctMo), slMo⟩)
    (cMo : PySem.W.codeIn K cdMo "Window.move" = true)
    (kMo : PySem.W.keepIn K (.ref fMo) = true)
    (aSw : PySem.W.findIn K (.ref CW) "swap" = some (some (.ref fSw)))
    (iSw : PySem.W.isFn K (.ref fSw) = true)
    (lSw : K.lookup fSw = some ⟨ocSw, odSw, .func (PySem.W.fnOf "swap" "Window.swap" (defArgs sSwap) (defBody sSwap) (defScope sSwap) .none kVSw dcSw pmSw anSw cdSw ctSw), slSw⟩)
    (cSw : PySem.W.codeIn K cdSw "Window.swap" = true)
    (kSw : PySem.W.keepIn K (.ref fSw) = true)
    (aTk : PySem.W.findIn K (.ref CW) "take" = some (some (.ref fTk)))
    (iTk : PySem.W.isFn K (.ref fTk) = true)
    (lTk : K.lookup fTk = some ⟨ocTk, odTk, .func (PySem.W.fnOf "take" "Window.take" (defArgs sTake) (defBody sTake) (defScope sTake) .none kVTk dcTk pmTk anTk cdTk ctTk), slTk⟩)
    (cTk : PySem.W.codeIn K cdTk "Window.take" = true)
    (kTk : PySem.W.keepIn K (.ref fTk) = true)
    (aRg : PySem.W.findIn K (.ref CW) "ring" = some (some (.ref fRg)))
    (iRg : PySem.W.isFn K (.ref fRg) = true)
    (lRg : K.lookup fRg = some ⟨ocRg, odRg, .func (PySem.W.fnOf "ring" "Window.ring" (defArgs sRing) (defBody sRing) (defScope sRing) .none kVRg dcRg pmRg anRg cdRg ctRg), slRg⟩)
    (cRg : PySem.W.codeIn K cdRg "Window.ring" = true)
    (kRg : PySem.W.keepIn K (.ref fRg) = true)
    (aWh : PySem.W.findIn K (.ref CW) "whole" = some (some (.ref fWh)))
    (iWh : PySem.W.isFn K (.ref fWh) = true)
    (lWh : K.lookup fWh = some ⟨ocWh, odWh, .func (PySem.W.fnOf "whole" "Window.whole" (defArgs sWhole) (defBody sWhole) (defScope sWhole) .none kVWh dcWh pmWh anWh cdWh ctWh), slWh⟩)
    (cWh : PySem.W.codeIn K cdWh "Window.whole" = true)
    (kWh : PySem.W.keepIn K (.ref fWh) = true)
    (aTo : PySem.W.findIn K (.ref CW) "told" = some (some (.ref fTo)))
    (iTo : PySem.W.isFn K (.ref fTo) = true)
    (lTo : K.lookup fTo = some ⟨ocTo, odTo, .func (PySem.W.fnOf "told" "Window.told" (defArgs sTold) (defBody sTold) (defScope sTold) .none kVTo dcTo pmTo anTo cdTo ctTo), slTo⟩)
    (cTo : PySem.W.codeIn K cdTo "Window.told" = true)
    (kTo : PySem.W.keepIn K (.ref fTo) = true)
    (aRI : PySem.W.findIn K (.ref CR) "__init__" = some (some (.ref fRI)))
    (iRI : PySem.W.isFn K (.ref fRI) = true)
    (lRI : K.lookup fRI = some ⟨ocRI, odRI, .func (PySem.W.fnOf "__init__" "Reader.__init__" (defArgs sRInit) (defBody sRInit) (defScope sRInit) .none kVRI dcRI pmRI anRI cdRI ctRI), slRI⟩)
    (cRI : PySem.W.codeIn K cdRI "Reader.__init__" = true)
    (kRI : PySem.W.keepIn K (.ref fRI) = true)
    (aAe : PySem.W.findIn K (.ref CR) "at_end" = some (some (.ref fAe)))
    (iAe : PySem.W.isFn K (.ref fAe) = true)
    (lAe : K.lookup fAe = some ⟨ocAe, odAe, .func (PySem.W.fnOf "at_end" "Reader.at_end" (defArgs sAtEnd) (defBody sAtEnd) (defScope sAtEnd) .none kVAe dcAe pmAe anAe cdAe ctAe), slAe⟩)
    (cAe : PySem.W.codeIn K cdAe "Reader.at_end" = true)
    (kAe : PySem.W.keepIn K (.ref fAe) = true)
    (aNb : PySem.W.findIn K (.ref CR) "number" = some (some (.ref fNb)))
    (iNb : PySem.W.isFn K (.ref fNb) = true)
    (lNb : K.lookup fNb = some ⟨ocNb, odNb, .func (PySem.W.fnOf "number" "Reader.number" (defArgs sNumber) (defBody sNumber) (defScope sNumber) .none kVNb dcNb pmNb anNb cdNb ctNb), slNb⟩)
    (cNb : PySem.W.codeIn K cdNb "Reader.number" = true)
    (kNb : PySem.W.keepIn K (.ref fNb) = true)
    (aRo : PySem.W.findIn K (.ref CR) "row" = some (some (.ref fRo)))
    (iRo : PySem.W.isFn K (.ref fRo) = true)
    (lRo : K.lookup fRo = some ⟨ocRo, odRo, .func (PySem.W.fnOf "row" "Reader.row" (defArgs sRow) (defBody sRow) (defScope sRow) .none kVRo dcRo pmRo anRo cdRo ctRo), slRo⟩)
    (cRo : PySem.W.codeIn K cdRo "Reader.row" = true)
    (kRo : PySem.W.keepIn K (.ref fRo) = true)
    (aNx : PySem.W.nsIn K mainGlobals "answer_next" = some (some (.ref fNx)))
    (lNx : K.lookup fNx = some ⟨ocNx, odNx, .func (PySem.W.fnOf "answer_next" "answer_next" (defArgs sNext) (defBody sNext) (defScope sNext) .none kVNx dcNx pmNx anNx cdNx ctNx), slNx⟩)
    (cNx : PySem.W.codeIn K cdNx "answer_next" = true)
    (kNx : PySem.W.keepIn K (.ref fNx) = true)
    (aIn : PySem.W.nsIn K mainGlobals "answers_in" = some (some (.ref fIn)))
    (lIn : K.lookup fIn = some ⟨ocIn, odIn, .func (PySem.W.fnOf "answers_in" "answers_in" (defArgs sIn) (defBody sIn) (defScope sIn) .none kVIn dcIn pmIn anIn cdIn ctIn), slIn⟩)
    (cIn : PySem.W.codeIn K cdIn "answers_in" = true)
    (kIn : PySem.W.keepIn K (.ref fIn) = true)
    (aAn : PySem.W.nsIn K mainGlobals "answers" = some (some (.ref fAn)))
    (lAn : K.lookup fAn = some ⟨ocAn, odAn, .func (PySem.W.fnOf "answers" "answers" (defArgs sAns) (defBody sAns) (defScope sAns) .none kVAn dcAn pmAn anAn cdAn ctAn), slAn⟩)
    (cAn : PySem.W.codeIn K cdAn "answers" = true)
    (kAn : PySem.W.keepIn K (.ref fAn) = true)
    (pgCW : PySem.W.plainGet K CW Str.empty = true)
    (hdCW : PySem.W.hasDictIn K CW = true)
    (poCW : PySem.W.plainOver K CW = true)
    (saCW : PySem.W.findIn K (.ref CW) "__setattr__" = some (some (.builtin "object.__setattr__")))
    (mkCW : PySem.W.makesIn K CW = true)
    (kcCW : PySem.W.keepIn K (.ref CW) = true)
    (nCW0 : PySem.W.findIn K (.ref CW) "slots" = some none)
    (nCW1 : PySem.W.findIn K (.ref CW) "bell" = some none)
    (nCW2 : PySem.W.findIn K (.ref CW) "count" = some none)
    (nCW3 : PySem.W.findIn K (.ref CW) "spare" = some none)
    (pgCR : PySem.W.plainGet K CR Str.empty = true)
    (hdCR : PySem.W.hasDictIn K CR = true)
    (poCR : PySem.W.plainOver K CR = true)
    (saCR : PySem.W.findIn K (.ref CR) "__setattr__" = some (some (.builtin "object.__setattr__")))
    (mkCR : PySem.W.makesIn K CR = true)
    (kcCR : PySem.W.keepIn K (.ref CR) = true)
    (nCR0 : PySem.W.findIn K (.ref CR) "calls" = some none)
    (nCR1 : PySem.W.findIn K (.ref CR) "place" = some none)
    (gn0 : PySem.W.nsIn K mainGlobals "SLOTS" = some (some (.int (64) t0)))
    (gn1 : PySem.W.nsIn K mainGlobals "SLOT_BYTES" = some (some (.int (64) t1)))
    (gn2 : PySem.W.nsIn K mainGlobals "SLOT_WORDS" = some (some (.int (8) t2)))
    (gn3 : PySem.W.nsIn K mainGlobals "WORD_BYTES" = some (some (.int (8) t3)))
    (gn4 : PySem.W.nsIn K mainGlobals "WORD_LIMIT" = some (some (.int (18446744073709551616) t4)))
    (gn5 : PySem.W.nsIn K mainGlobals "BELL_PLACE" = some (some (.int (4096) t5)))
    (gn6 : PySem.W.nsIn K mainGlobals "COUNT_PLACE" = some (some (.int (4104) t6)))
    (gn7 : PySem.W.nsIn K mainGlobals "SPARE_PLACE" = some (some (.int (4112) t7)))
    (gn8 : PySem.W.nsIn K mainGlobals "SPARE_BYTES" = some (some (.int (48) t8)))
    (gn9 : PySem.W.nsIn K mainGlobals "WINDOW_BYTES" = some (some (.int (4160) t9)))
    (gn10 : PySem.W.nsIn K mainGlobals "BEGIN" = some (some (.int (0) t10)))
    (gn11 : PySem.W.nsIn K mainGlobals "SEND" = some (some (.int (1) t11)))
    (gn12 : PySem.W.nsIn K mainGlobals "PATCH" = some (some (.int (2) t12)))
    (gn13 : PySem.W.nsIn K mainGlobals "FILL" = some (some (.int (3) t13)))
    (gn14 : PySem.W.nsIn K mainGlobals "MOVE" = some (some (.int (4) t14)))
    (gn15 : PySem.W.nsIn K mainGlobals "SWAP" = some (some (.int (5) t15)))
    (gn16 : PySem.W.nsIn K mainGlobals "TAKE" = some (some (.int (6) t16)))
    (gn17 : PySem.W.nsIn K mainGlobals "BELL" = some (some (.int (7) t17)))
    (gn18 : PySem.W.nsIn K mainGlobals "TOLD" = some (some (.int (8) t18)))
    (gn19 : PySem.W.nsIn K mainGlobals "DONE" = some (some (.int (0) t19)))
    (gn20 : PySem.W.nsIn K mainGlobals "REFUSED" = some (some (.int (-1) t20)))
    (zn0 : PySem.W.nsIn K mainGlobals "range" = some none)
    (zn1 : PySem.W.nsIn K mainGlobals "len" = some none)
    (zn2 : PySem.W.nsIn K mainGlobals "tuple" = some none)
    (zn3 : PySem.W.nsIn K mainGlobals "reversed" = some none)
    (zn4 : PySem.W.nsIn K mainGlobals "zip" = some none)
    (zn5 : PySem.W.nsIn K mainGlobals "list" = some none)
    (zn6 : PySem.W.nsIn K mainGlobals "enumerate" = some none)
    : ∃ fd : FuncData, (∀ (s : Shared) (us : List Value), us.length = (["calls"] : List Str).length → BindsTo s fd ⟨us, []⟩ ((["calls"] : List Str).zip us)) ∧ ∀ base : Heap, K.In base → base.Ns mainGlobals mg → FnOk P w K mg base CX0 6 fa fd ["calls"] (spAns K) := by
  have e := hfa.symm.trans (PySem.W.mg_of X G aAn)
  cases e
  have T : Glo mg := ⟨⟨_, PySem.W.mg_of X G gn0⟩, ⟨_, PySem.W.mg_of X G gn1⟩, ⟨_, PySem.W.mg_of X G gn2⟩, ⟨_, PySem.W.mg_of X G gn3⟩, ⟨_, PySem.W.mg_of X G gn4⟩, ⟨_, PySem.W.mg_of X G gn5⟩, ⟨_, PySem.W.mg_of X G gn6⟩, ⟨_, PySem.W.mg_of X G gn7⟩, ⟨_, PySem.W.mg_of X G gn8⟩, ⟨_, PySem.W.mg_of X G gn9⟩, ⟨_, PySem.W.mg_of X G gn10⟩, ⟨_, PySem.W.mg_of X G gn11⟩, ⟨_, PySem.W.mg_of X G gn12⟩, ⟨_, PySem.W.mg_of X G gn13⟩, ⟨_, PySem.W.mg_of X G gn14⟩, ⟨_, PySem.W.mg_of X G gn15⟩, ⟨_, PySem.W.mg_of X G gn16⟩, ⟨_, PySem.W.mg_of X G gn17⟩, ⟨_, PySem.W.mg_of X G gn18⟩, ⟨_, PySem.W.mg_of X G gn19⟩, ⟨_, PySem.W.mg_of X G gn20⟩, PySem.W.mg_none_of X G zn0, PySem.W.mg_none_of X G zn1, PySem.W.mg_none_of X G zn2, PySem.W.mg_none_of X G zn3, PySem.W.mg_none_of X G zn4, PySem.W.mg_none_of X G zn5, PySem.W.mg_none_of X G zn6⟩
  have tCW : WTxt K CW := ⟨⟨pgCW, hdCW, poCW, saCW⟩, nCW0, nCW1, nCW2, nCW3⟩
  have tCR : RTxt K CR := ⟨⟨pgCR, hdCR, poCR, saCR⟩, nCR0, nCR1⟩
  have FSl := fun_mk (st := sSlot) lSl cSl kSl
  have bSl := FSl.binds (ps := ["slot"]) fun _ _ _ _ _ _ us hl => match us, hl with | [_], _ => rfl
  have FNu := fun_mk (st := sNum) lNu cNu kNu
  have bNu := FNu.binds (ps := ["content"]) fun _ _ _ _ _ _ us hl => match us, hl with | [_], _ => rfl
  have FWb := fun_mk (st := sWb) lWb cWb kWb
  have bWb := FWb.binds (ps := ["word"]) fun _ _ _ _ _ _ us hl => match us, hl with | [_], _ => rfl
  have FFi := fun_mk (st := sFil) lFi cFi kFi
  have bFi := FFi.binds (ps := ["x", "step", "first"]) fun _ _ _ _ _ _ us hl => match us, hl with | [_, _, _], _ => rfl
  have FTl := fun_mk (st := sTurn) lTl cTl kTl
  have bTl := FTl.binds (ps := ["word"]) fun _ _ _ _ _ _ us hl => match us, hl with | [_], _ => rfl
  have FCk := fun_mk (st := sChk) lCk cCk kCk
  have bCk := FCk.binds (ps := ["content"]) fun _ _ _ _ _ _ us hl => match us, hl with | [_], _ => rfl
  have FWI := fun_mk (st := sWInit) lWI cWI kWI
  have bWI := FWI.binds (ps := ["self"]) fun _ _ _ _ _ _ us hl => match us, hl with | [_], _ => rfl
  have FBe := fun_mk (st := sBegin) lBe cBe kBe
  have bBe := FBe.binds (ps := ["self", "places", "given"]) fun _ _ _ _ _ _ us hl => match us, hl with | [_, _, _], _ => rfl
  have FSe := fun_mk (st := sSend) lSe cSe kSe
  have bSe := FSe.binds (ps := ["self", "slot", "message"]) fun _ _ _ _ _ _ us hl => match us, hl with | [_, _, _], _ => rfl
  have FPa := fun_mk (st := sPatch) lPa cPa kPa
  have bPa := FPa.binds (ps := ["self", "slot", "off", "given"]) fun _ _ _ _ _ _ us hl => match us, hl with | [_, _, _, _], _ => rfl
  have FFl := fun_mk (st := sFill) lFl cFl kFl
  have bFl := FFl.binds (ps := ["self", "slot", "n", "x", "step"]) fun _ _ _ _ _ _ us hl => match us, hl with | [_, _, _, _, _], _ => rfl
  have FMo := fun_mk (st := sMove) lMo cMo kMo
  have bMo := FMo.binds (ps := ["self", "source", "to", "n"]) fun _ _ _ _ _ _ us hl => match us, hl with | [_, _, _, _], _ => rfl
  have FSw := fun_mk (st := sSwap) lSw cSw kSw
  have bSw := FSw.binds (ps := ["self", "i", "j"]) fun _ _ _ _ _ _ us hl => match us, hl with | [_, _, _], _ => rfl
  have FTk := fun_mk (st := sTake) lTk cTk kTk
  have bTk := FTk.binds (ps := ["self", "slot"]) fun _ _ _ _ _ _ us hl => match us, hl with | [_, _], _ => rfl
  have FRg := fun_mk (st := sRing) lRg cRg kRg
  have bRg := FRg.binds (ps := ["self", "value"]) fun _ _ _ _ _ _ us hl => match us, hl with | [_, _], _ => rfl
  have FWh := fun_mk (st := sWhole) lWh cWh kWh
  have bWh := FWh.binds (ps := ["self"]) fun _ _ _ _ _ _ us hl => match us, hl with | [_], _ => rfl
  have FTo := fun_mk (st := sTold) lTo cTo kTo
  have bTo := FTo.binds (ps := ["self"]) fun _ _ _ _ _ _ us hl => match us, hl with | [_], _ => rfl
  have FRI := fun_mk (st := sRInit) lRI cRI kRI
  have bRI := FRI.binds (ps := ["self", "calls"]) fun _ _ _ _ _ _ us hl => match us, hl with | [_, _], _ => rfl
  have FAe := fun_mk (st := sAtEnd) lAe cAe kAe
  have bAe := FAe.binds (ps := ["self"]) fun _ _ _ _ _ _ us hl => match us, hl with | [_], _ => rfl
  have FNb := fun_mk (st := sNumber) lNb cNb kNb
  have bNb := FNb.binds (ps := ["self"]) fun _ _ _ _ _ _ us hl => match us, hl with | [_], _ => rfl
  have FRo := fun_mk (st := sRow) lRo cRo kRo
  have bRo := FRo.binds (ps := ["self"]) fun _ _ _ _ _ _ us hl => match us, hl with | [_], _ => rfl
  have FNx := fun_mk (st := sNext) lNx cNx kNx
  have bNx := FNx.binds (ps := ["window", "reader"]) fun _ _ _ _ _ _ us hl => match us, hl with | [_, _], _ => rfl
  have FIn := fun_mk (st := sIn) lIn cIn kIn
  have bIn := FIn.binds (ps := ["window", "calls"]) fun _ _ _ _ _ _ us hl => match us, hl with | [_, _], _ => rfl
  have FAn := fun_mk (st := sAns) lAn cAn kAn
  have bAn := FAn.binds (ps := ["calls"]) fun _ _ _ _ _ _ us hl => match us, hl with | [_], _ => rfl
  have mSl := PySem.W.mg_of X G aSl
  have mNu := PySem.W.mg_of X G aNu
  have mWb := PySem.W.mg_of X G aWb
  have mFi := PySem.W.mg_of X G aFi
  have mTl := PySem.W.mg_of X G aTl
  have mCk := PySem.W.mg_of X G aCk
  have mNx := PySem.W.mg_of X G aNx
  have mIn := PySem.W.mg_of X G aIn
  have mAn := PySem.W.mg_of X G aAn
  refine ⟨PySem.W.fnOf "answers" "answers" (defArgs sAns) (defBody sAns) (defScope sAns) .none kVAn dcAn pmAn anAn cdAn ctAn, fun s us hu => match us, hu with | [_], _ => .of_eq rfl, fun base _ _ => ?_⟩
  have M : Meths P w K mg base CW CR := ⟨tCW, tCR, ⟨fNb, _, ⟨aNb, iNb, kNb⟩, bNb, (ok_number FNb tCR).mono (by decide)⟩, ⟨fRo, _, ⟨aRo, iRo, kRo⟩, bRo, (ok_row FRo tCR T FNb bNb ⟨aNb, iNb, kNb⟩).mono (by decide)⟩,
    ⟨fBe, _, ⟨aBe, iBe, kBe⟩, bBe, (ok_begin FBe tCW T FNu bNu mNu).mono (by decide)⟩, ⟨fSe, _, ⟨aSe, iSe, kSe⟩, bSe, (ok_send FSe tCW T FSl bSl mSl).mono (by decide)⟩, ⟨fPa, _, ⟨aPa, iPa, kPa⟩, bPa, (ok_patch FPa tCW T FSl bSl mSl).mono (by decide)⟩,
    ⟨fFl, _, ⟨aFl, iFl, kFl⟩, bFl, ok_fill FFl tCW T FFi bFi mFi FWb bWb mWb⟩, ⟨fMo, _, ⟨aMo, iMo, kMo⟩, bMo, (ok_move FMo tCW T).mono (by decide)⟩,
    ⟨fSw, _, ⟨aSw, iSw, kSw⟩, bSw, (ok_swap FSw tCW T FSl bSl mSl).mono (by decide)⟩, ⟨fTk, _, ⟨aTk, iTk, kTk⟩, bTk, ok_take FTk tCW T FSl bSl mSl FWb bWb mWb bCk mCk kCk (ok_chk FCk T FNu bNu mNu FTl bTl mTl)⟩, ⟨fRg, _, ⟨aRg, iRg, kRg⟩, bRg, (ok_ring FRg tCW T).mono (by decide)⟩,
    ⟨fTo, _, ⟨aTo, iTo, kTo⟩, bTo, ok_told FTo tCW T ⟨aWh, iWh, kWh⟩ bWh (ok_whole FWh tCW T FWb bWb mWb)⟩⟩
  exact ok_ans FAn (PySem.W.mg_of X G aCW) ⟨mkCW, aWI, iWI, kcCW⟩ bWI (ok_winit FWI tCW T) mIn kIn bIn (ok_in FIn T tCR (PySem.W.mg_of X G aCR) ⟨mkCR, aRI, iRI, kcCR⟩ bRI (ok_rinit FRI tCR) ⟨aAe, iAe, kAe⟩ bAe ((ok_atEnd FAe tCR T).mono (by decide)) mNx kNx bNx (ok_next FNx T M))
end WP
open PySem PySem.W PyProof.Rows
set_option maxRecDepth 100000 in
set_option maxHeartbeats 0 in
theorem PySem.Challenge.cw_watchedwindow_s01_answers_holds : PySem.Challenge.rw_watchedwindow_s01_answers.Holds := by
  w_on; k_headS; (case hw => exact ⟨[.list [.int 0, .int 0, .int 0, .int 8]], by decide +kernel, by decide +kernel⟩)
  k_fillS
  refine L2.walk_specK (r := PySem.Challenge.rw_watchedwindow_s01_answers) (k := 6) (CX := L2.CX0) (ps := ["calls"]) (sp := WP.spAns) (by decide +kernel) rfl rfl ⟨rfl, by decide, by decide⟩ (fun w h Y => PySem.W.kIn_of Y) ?F ?S (fun _ _ _ _ z => z)
  case F =>
    intro w mg fa h Y KX G hmg
    refine' WP.all_mk KX G hmg ?aCW ?aCR ?aSl ?lSl ?cSl ?kSl ?aNu ?lNu ?cNu ?kNu ?aWb ?lWb ?cWb ?kWb ?aFi ?lFi ?cFi ?kFi ?aTl ?lTl ?cTl ?kTl ?aCk ?lCk ?cCk ?kCk ?aWI ?iWI ?lWI ?cWI ?kWI ?aBe ?iBe ?lBe ?cBe ?kBe ?aSe ?iSe ?lSe ?cSe ?kSe ?aPa ?iPa ?lPa ?cPa ?kPa ?aFl ?iFl ?lFl ?cFl ?kFl ?aMo ?iMo ?lMo ?cMo ?kMo ?aSw ?iSw ?lSw ?cSw ?kSw ?aTk ?iTk ?lTk ?cTk ?kTk ?aRg ?iRg ?lRg ?cRg ?kRg ?aWh ?iWh ?lWh ?cWh ?kWh ?aTo ?iTo ?lTo ?cTo ?kTo ?aRI ?iRI ?lRI ?cRI ?kRI ?aAe ?iAe ?lAe ?cAe ?kAe ?aNb ?iNb ?lNb ?cNb ?kNb ?aRo ?iRo ?lRo ?cRo ?kRo ?aNx ?lNx ?cNx ?kNx ?aIn ?lIn ?cIn ?kIn ?aAn ?lAn ?cAn ?kAn ?pgCW ?hdCW ?poCW ?saCW ?mkCW ?kcCW ?nCW0 ?nCW1 ?nCW2 ?nCW3 ?pgCR ?hdCR ?poCR ?saCR ?mkCR ?kcCR ?nCR0 ?nCR1 ?gn0 ?gn1 ?gn2 ?gn3 ?gn4 ?gn5 ?gn6 ?gn7 ?gn8 ?gn9 ?gn10 ?gn11 ?gn12 ?gn13 ?gn14 ?gn15 ?gn16 ?gn17 ?gn18 ?gn19 ?gn20 ?zn0 ?zn1 ?zn2 ?zn3 ?zn4 ?zn5 ?zn6
    (case aCW => k_is)
    (case aCR => k_is)
    (case aSl => k_is)
    (case lSl => k_is)
    (case cSl => k_is)
    (case kSl => k_is)
    (case aNu => k_is)
    (case lNu => k_is)
    (case cNu => k_is)
    (case kNu => k_is)
    (case aWb => k_is)
    (case lWb => k_is)
    (case cWb => k_is)
    (case kWb => k_is)
    (case aFi => k_is)
    (case lFi => k_is)
    (case cFi => k_is)
    (case kFi => k_is)
    (case aTl => k_is)
    (case lTl => k_is)
    (case cTl => k_is)
    (case kTl => k_is)
    (case aCk => k_is)
    (case lCk => k_is)
    (case cCk => k_is)
    (case kCk => k_is)
    (case aWI => k_is)
    (case iWI => k_is)
    (case lWI => k_is)
    (case cWI => k_is)
    (case kWI => k_is)
    (case aBe => k_is)
    (case iBe => k_is)
    (case lBe => k_is)
    (case cBe => k_is)
    (case kBe => k_is)
    (case aSe => k_is)
    (case iSe => k_is)
    (case lSe => k_is)
    (case cSe => k_is)
    (case kSe => k_is)
    (case aPa => k_is)
    (case iPa => k_is)
    (case lPa => k_is)
    (case cPa => k_is)
    (case kPa => k_is)
    (case aFl => k_is)
    (case iFl => k_is)
    (case lFl => k_is)
    (case cFl => k_is)
    (case kFl => k_is)
    (case aMo => k_is)
    (case iMo => k_is)
    (case lMo => k_is)
    (case cMo => k_is)
    (case kMo => k_is)
    (case aSw => k_is)
    (case iSw => k_is)
    (case lSw => k_is)
    (case cSw => k_is)
    (case kSw => k_is)
    (case aTk => k_is)
    (case iTk => k_is)
    (case lTk => k_is)
    (case cTk => k_is)
    (case kTk => k_is)
    (case aRg => k_is)
    (case iRg => k_is)
    (case lRg => k_is)
    (case cRg => k_is)
    (case kRg => k_is)
    (case aWh => k_is)
    (case iWh => k_is)
    (case lWh => k_is)
    (case cWh => k_is)
    (case kWh => k_is)
    (case aTo => k_is)
    (case iTo => k_is)
    (case lTo => k_is)
    (case cTo => k_is)
    (case kTo => k_is)
    (case aRI => k_is)
    (case iRI => k_is)
    (case lRI => k_is)
    (case cRI => k_is)
    (case kRI => k_is)
    (case aAe => k_is)
    (case iAe => k_is)
    (case lAe => k_is)
    (case cAe => k_is)
    (case kAe => k_is)
    (case aNb => k_is)
    (case iNb => k_is)
    (case lNb => k_is)
    (case cNb => k_is)
    (case kNb => k_is)
    (case aRo => k_is)
    (case iRo => k_is)
    (case lRo => k_is)
    (case cRo => k_is)
    (case kRo => k_is)
    (case aNx => k_is)
    (case lNx => k_is)
    (case cNx => k_is)
    (case kNx => k_is)
    (case aIn => k_is)
    (case lIn => k_is)
    (case cIn => k_is)
    (case kIn => k_is)
    (case aAn => k_is)
    (case lAn => k_is)
    (case cAn => k_is)
    (case kAn => k_is)
    (case pgCW => k_is)
    (case hdCW => k_is)
    (case poCW => k_is)
    (case saCW => k_is)
    (case mkCW => k_is)
    (case kcCW => k_is)
    (case nCW0 => k_is)
    (case nCW1 => k_is)
    (case nCW2 => k_is)
    (case nCW3 => k_is)
    (case pgCR => k_is)
    (case hdCR => k_is)
    (case poCR => k_is)
    (case saCR => k_is)
    (case mkCR => k_is)
    (case kcCR => k_is)
    (case nCR0 => k_is)
    (case nCR1 => k_is)
    (case gn0 => k_is)
    (case gn1 => k_is)
    (case gn2 => k_is)
    (case gn3 => k_is)
    (case gn4 => k_is)
    (case gn5 => k_is)
    (case gn6 => k_is)
    (case gn7 => k_is)
    (case gn8 => k_is)
    (case gn9 => k_is)
    (case gn10 => k_is)
    (case gn11 => k_is)
    (case gn12 => k_is)
    (case gn13 => k_is)
    (case gn14 => k_is)
    (case gn15 => k_is)
    (case gn16 => k_is)
    (case gn17 => k_is)
    (case gn18 => k_is)
    (case gn19 => k_is)
    (case gn20 => k_is)
    (case zn0 => k_is)
    (case zn1 => k_is)
    (case zn2 => k_is)
    (case zn3 => k_is)
    (case zn4 => k_is)
    (case zn5 => k_is)
    (case zn6 => k_is)
  case S =>
    intro K H xs a hO hwi hask hx
    cases hx with
    | cons h1 h2 =>
      cases h2
      cases h1 with
      | lst hs ha =>
        have e := L2.ints_dw a.1 _ ha
        subst e
        exact ⟨_, a.1, rfl, hs, hask, fun H' p hp => .lst (L2.SqL.of hp) (L2.dw_ints _)⟩
#print axioms PySem.Challenge.cw_watchedwindow_s01_answers_holds
end
