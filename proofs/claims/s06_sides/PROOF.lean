import PyProof.Rows.All
import Wide.All
import OpenK.AllK
import Wide.FinOn
import PyProof.EqAt
import PyProof.EqKinds
import PyProof.TupleCall
import KE.BitLaws
import PyProof.StationsW
import PyProof.PassesOwn
import PyProof.InstStoreFacts
import PyProof.ExcInit
import PyProof.ExcAttrAll.Exception
import KE.KTryMore
import PyWqauce
import PySem.Challenge.RW0_looseleavesdesk_s06_sides
import KE.OsMore
import KE.RegKTryMore
import PySem.Challenge.RW_looseleavesdesk_s06_sides
import Open.SpecLaws
import KE.OsHead
import KE.OsGo
import KE.SpHead
import KE.OsShapes
section
set_option Elab.async false
set_option linter.all false
set_option maxRecDepth 100000
namespace L2
open PySem PySem.Spec PyProof.Rows
/-- a key: an int or a str -/
abbrev Key := Sum Int Str
def keyIs : Key → Value → Bool
  | .inl k, v => Value.isInt k v
  | .inr x, v => Value.isStrOf x v
def keyH (w : World) : Key → Int
  | .inl k => hashInt k
  | .inr x => hashStr w x
theorem keyIs_shape : ∀ {k : Key} {v : Value}, keyIs k v = true → (∃ i t, k = Sum.inl i ∧ v = Value.int i t) ∨ (∃ x t, k = Sum.inr x ∧ v = Value.str x t)
  | .inl i, v, h => by
    obtain ⟨t, e⟩ := Value.isInt_shape (k := i) (v := v) h
    exact .inl ⟨i, t, rfl, e⟩
  | .inr x, v, h => by
    obtain ⟨t, e⟩ := Value.isStrOf_shape (x := x) (v := v) h
    exact .inr ⟨x, t, rfl, e⟩
theorem keyIs_int (i : Int) (t : Tok) : keyIs (.inl i) (.int i t) = true := by simp [keyIs, Value.isInt]
theorem keyIs_str (x : Str) (t : Tok) : keyIs (.inr x) (.str x t) = true := by simp [keyIs, Value.isStrOf]
theorem key_ll (a b : Int) : decide ((Sum.inl a : Key) = Sum.inl b) = (a == b) := by
  by_cases e : a = b
  · subst e; simp
  · have h : ¬ (Sum.inl a : Key) = Sum.inl b := fun q => e (Sum.inl.inj q)
    rw [decide_eq_false h]
    exact (beq_eq_false_iff_ne.mpr e).symm
theorem key_rr (a b : Str) : decide ((Sum.inr a : Key) = Sum.inr b) = decide (a = b) := by
  by_cases e : a = b
  · subst e; simp
  · have h : ¬ (Sum.inr a : Key) = Sum.inr b := fun q => e (Sum.inr.inj q)
    rw [decide_eq_false h, decide_eq_false e]
theorem key_lr (a : Int) (b : Str) : decide ((Sum.inl a : Key) = Sum.inr b) = false := decide_eq_false (fun q => nomatch q)
theorem key_rl (a : Str) (b : Int) : decide ((Sum.inr a : Key) = Sum.inl b) = false := decide_eq_false (fun q => nomatch q)
def mixKind (prog : Program) (w : World) : PySem.KeyKind prog w Key where
  is := keyIs
  hash := keyH w
  inj := fun v a b ha hb => by
    rcases keyIs_shape ha with ⟨i, t, rfl, rfl⟩ | ⟨x, t, rfl, rfl⟩
    · rcases keyIs_shape hb with ⟨j, u, rfl, e⟩ | ⟨y, u, rfl, e⟩
      · injection e with e1 _; rw [e1]
      · exact nomatch e
    · rcases keyIs_shape hb with ⟨j, u, rfl, e⟩ | ⟨y, u, rfl, e⟩
      · exact nomatch e
      · injection e with e1 _; rw [e1]
  byValue := fun k v h => by
    rcases keyIs_shape h with ⟨i, t, rfl, rfl⟩ | ⟨x, t, rfl, rfl⟩ <;> rfl
  pyHash := fun hv h => by
    rcases keyIs_shape hv with ⟨i, t, rfl, rfl⟩ | ⟨x, t, rfl, rfl⟩
    · exact wpAny_pyHash_int h
    · exact wpAny_pyHash_str h
  eqBool := fun hu hv h => by
    rcases keyIs_shape hu with ⟨i, t, rfl, rfl⟩ | ⟨x, t, rfl, rfl⟩
    · rcases keyIs_shape hv with ⟨j, u, rfl, rfl⟩ | ⟨y, u, rfl, rfl⟩
      · rw [key_ll] at h; exact wpAny_eqBool_int h
      · rw [key_lr] at h; exact SeqAt.EqAt.int_str i t y u _ _ _ _ h
    · rcases keyIs_shape hv with ⟨j, u, rfl, rfl⟩ | ⟨y, u, rfl, rfl⟩
      · rw [key_rl] at h; exact SeqAt.EqAt.str_int x t j u _ _ _ _ h
      · rw [key_rr] at h; exact wpAny_eqBool_str h
  «strs» := fun k x t v h => by
    rcases keyIs_shape h with ⟨i, u, rfl, e⟩ | ⟨y, u, rfl, e⟩
    · exact nomatch e
    · injection e with e1 _
      subst e1
      cases v <;> rfl
theorem mixKind_int (prog : Program) (w : World) (i : Int) (t : Tok) : (mixKind prog w).is (.inl i) (.int i t) = true := keyIs_int i t
theorem mixKind_str (prog : Program) (w : World) (x : Str) (t : Tok) : (mixKind prog w).is (.inr x) (.str x t) = true := keyIs_str x t
end L2
namespace L2
open PySem PySem.Spec PyProof.Rows
/-- a value, without the heap -/
inductive V where
  | non | bl (b : Bool) | int (i : Int) | str (x : Str) | byt (b : Array UInt8) | flt (b : UInt64) | ref (a : Addr) | ty (n : String)
  deriving DecidableEq
def RelV : V → Value → Prop
  | .non, u => u = Value.none
  | .bl b, u => u = Value.bool b
  | .int i, u => ∃ t, u = Value.int i t
  | .str x, u => ∃ t, u = Value.str x t
  | .byt b, u => ∃ t, u = Value.bytes b t
  | .flt b, u => ∃ t, u = Value.float b t
  | .ref a, u => u = Value.ref a
  | .ty n, u => u = Value.type n
abbrev Vals : List V → List Value → Prop := Paired RelV
theorem Vals.length {xs : List V} {us : List Value} (r : Vals xs us) : xs.length = us.length := Paired.length r
theorem Vals.get : ∀ {xs : List V} {us : List Value} {i : Nat} {x : V}, Vals xs us → xs[i]? = some x → ∃ u, us[i]? = some u ∧ RelV x u
  | _, _, _, _, .nil, e => by simp at e
  | _, _, 0, _, .cons r _, e => by simp at e; subst e; exact ⟨_, rfl, r⟩
  | _, _, i + 1, x, .cons _ t, e => by
    obtain ⟨u, h1, h2⟩ := Vals.get (i := i) (x := x) t (by simpa using e)
    exact ⟨u, by simpa using h1, h2⟩
theorem Vals.set {x : V} {u : Value} (r : RelV x u) : ∀ {xs : List V} {us : List Value} (i : Nat), Vals xs us → Vals (xs.set i x) (us.set i u)
  | _, _, _, .nil => .nil
  | _, _, 0, .cons _ t => .cons r t
  | _, _, i + 1, .cons q t => .cons q (Vals.set r i t)
theorem Vals.append : ∀ {xs ys : List V} {us ws : List Value}, Vals xs us → Vals ys ws → Vals (xs ++ ys) (us ++ ws)
  | _, _, _, _, .nil, s => s
  | _, _, _, _, .cons r t, s => .cons r (Vals.append t s)
theorem Vals.take : ∀ {xs : List V} {us : List Value} (n : Nat), Vals xs us → Vals (xs.take n) (us.take n)
  | _, _, 0, _ => .nil
  | _, _, _ + 1, .nil => .nil
  | _, _, n + 1, .cons r t => .cons r (Vals.take n t)
theorem Vals.drop : ∀ {xs : List V} {us : List Value} (n : Nat), Vals xs us → Vals (xs.drop n) (us.drop n)
  | _, _, 0, r => r
  | _, _, _ + 1, .nil => .nil
  | _, _, n + 1, .cons _ t => Vals.drop n t
theorem Vals.none_of : ∀ {xs : List V} {us : List Value} {i : Nat}, Vals xs us → xs[i]? = none → us[i]? = none := fun {xs us i} r e => by
  have h1 := r.length
  have h2 : xs.length ≤ i := List.getElem?_eq_none_iff.mp e
  exact List.getElem?_eq_none_iff.mpr (by omega)
def RelO : Option V → Option Value → Prop
  | some v, some u => RelV v u
  | none, none => True
  | _, _ => False
def KV {κ : Type} : List (κ × V) → List (κ × Value) → Prop := Paired fun (p : κ × V) (q : κ × Value) => p.1 = q.1 ∧ RelV p.2 q.2
/-- a key of a dict (00_mix): an int or a text -/
def kV : Key → V
  | .inl i => .int i
  | .inr x => .str x
/-- what stands at a tracked address -/
inductive HO where
  /-- a list -/
  | lst (xs : List V)
  /-- a tuple (never changes) -/
  | tup (xs : List V)
  /-- a dict whose keys are ints and texts; one whose keys are tuples of ints and texts (the empty one is both) -/
  | dK (kvs : List (Key × V)) | dT (kvs : List (List Key × V))
  /-- a set of ints: its members, its size -/
  | set (S : Int → Bool) (n : Nat)
  /-- an instance of the class at C, its dict at dx, its attributes -/
  | ins (C dx : Addr) (fs : List (Str × V))
  /-- the dict of the instance at x -/
  | own (x : Addr)
  /-- the dict of an exception -/
  | xd (fs : List (Str × V))
  /-- a bound method, f of x -/
  | met (f x : Addr)
  /-- a range object lo, lo + 1, .. below hi -/
  | rng (lo hi : Int)
  /-- a thing that is known to the object (the script; a dict while a loop walks it): read, never written while it is so -/
  | frz (o : Obj) (u : HO)
  /-- a code object's table -/
  | tbl (ps : Array Value)
  /-- any other thing, by what is true of its one object (a def of one's own: SetO a S n := HO.ext fun h => ..) -/
  | ext (φ : Heap → Prop)
abbrev Hp := Addr → Option HO
def upd (H : Hp) (a : Addr) (o : HO) : Hp := fun b => if b = a then some o else H b
theorem upd_same {H : Hp} {a : Addr} {o : HO} : upd H a o a = some o := by unfold upd; rw [if_pos rfl]
theorem upd_ne {H : Hp} {a b : Addr} {o : HO} (h : b ≠ a) : upd H a o b = H b := by unfold upd; rw [if_neg h]
/-- two objects of different content stand apart -/
theorem ne_of {H : Hp} {a b : Addr} {o u : HO} (h : H a = some o) (h' : H b = some u) (d : o ≠ u) : a ≠ b := by
  intro e; subst e; rw [h] at h'; exact d (Option.some.inj h')
theorem ne_of_none {H : Hp} {a b : Addr} {o : HO} (h : H a = some o) (h' : H b = none) : a ≠ b := by
  intro e; subst e; rw [h] at h'; cases h'
section
variable (P : Program) (w : World)
def ObjOk (H : Hp) (h : Heap) (a : Addr) : HO → Prop
  | .lst xs => xs.length ≤ sizeLine ∧ ∃ (its : List Value) (n : Nat), Vals xs its ∧ h.get? a = some { cls := .type "list", data := .seq its.toArray n }
  | .tup xs => xs.length ≤ sizeLine ∧ ∃ its : List Value, Vals xs its ∧ IsTup h a its.toArray
  | .dK kvs => kvs.length ≤ sizeLine ∧ (a == sysModules) = false ∧ ∃ vs, KV kvs vs ∧ h.DictOf (mixKind P w) a vs
  | .dT kvs => kvs.length ≤ sizeLine ∧ (a == sysModules) = false ∧ ∃ xs : List (List Key × Addr × Value),
      Paired (fun (p : List Key × V) (q : List Key × Addr × Value) => p.1 = q.1 ∧ H q.2.1 = some (.tup (p.1.map kV)) ∧ RelV p.2 q.2.2) kvs xs ∧
      ∃ o es ep, h.get? a = some o ∧ o.ExactDict ∧ o.data = .dict es ep ∧ es.toList = xs.map (entryOfKey (tupleKind (mixKind P w))) ∧ (xs.map (·.1)).Nodup
  | .set S n => h.SetOf (intKind P w) a S n
  | .ins C dx fs => H dx = some (.own a) ∧ fs.length ≤ 1000 ∧ dx ≠ a ∧ h.get? a = some (PySem.W.instObj C dx) ∧
      ∃ mA, h.Ns1 dx mA ∧ (∀ f, RelO (fs.lookup f) (mA f)) ∧ PySem.Within mA (fs.map (·.1))
  | .own _ => ∃ o, h.get? a = some o
  | .xd fs => ∃ mA, h.Ns1 a mA ∧ ∀ f, RelO (fs.lookup f) (mA f)
  | .rng lo hi => ∃ t u v, h.get? a = some { cls := .type "range", data := .fields #[.int lo t, .int hi u, .int 1 v] }
  | .frz o u => h.get? a = some o ∧ ObjOk H h a u
  | .tbl ps => h.get? a = some { cls := .none, data := .fields ps }
  | .met f x => h.get? a = some (PySem.W.methodObj (.ref f) (.ref x))
  | .ext φ => φ h ∧ (∃ o, h.get? a = some o) ∧ ∀ h1 h2 : Heap, φ h1 → (∀ o, h1.get? a = some o → h2.get? a = some o) → φ h2
/-- the abstract heap is held -/
def HOk (H : Hp) (h : Heap) : Prop := ∀ a o, H a = some o → ObjOk P w H h a o
end
section
variable {P : Program} {w : World} {H H' : Hp} {h h' : Heap} {a : Addr} {o : HO}
theorem ObjOk.lt (x : ObjOk P w H h a o) : a < h.objs.size := by
  cases o with
  | lst xs => obtain ⟨_, _, _, _, e⟩ := x; exact Heap.lt_size e
  | tup xs => obtain ⟨_, _, _, p⟩ := x; exact p.lt
  | dK kvs => obtain ⟨_, _, _, _, o, _, _, e, _⟩ := x; exact Heap.lt_size e
  | dT kvs => obtain ⟨_, _, _, _, o, _, _, e, _⟩ := x; exact Heap.lt_size e
  | set S n => obtain ⟨o, _, _, _, e, _⟩ := x; exact Heap.lt_size e
  | ins C dx fs => obtain ⟨_, _, _, e, _⟩ := x; exact Heap.lt_size e
  | own y => obtain ⟨_, e⟩ := x; exact Heap.lt_size e
  | xd fs => obtain ⟨_, ⟨_, _, _, e, _⟩, _⟩ := x; exact Heap.lt_size e
  | rng lo hi => obtain ⟨_, _, _, e⟩ := x; exact Heap.lt_size e
  | frz ob u => obtain ⟨e, _⟩ := x; exact Heap.lt_size e
  | tbl ps => exact Heap.lt_size (show h.get? a = some _ from x)
  | met f y => exact Heap.lt_size (show h.get? a = some _ from x)
  | ext φ => obtain ⟨_, ⟨_, e⟩, _⟩ := x; exact Heap.lt_size e
theorem Paired.mapP {α β : Type} {F G : α → β → Prop} : ∀ {l₁ : List α} {l₂ : List β}, Paired F l₁ l₂ → (∀ a b, F a b → G a b) → Paired G l₁ l₂
  | _, _, .nil, _ => .nil
  | _, _, .cons r t, f => .cons (f _ _ r) (Paired.mapP t f)
/-- what an object's description leans on: its own object, its own dict, the tuples -/
theorem ObjOk.stay (x : ObjOk P w H h a o) (k : ∀ b u, (b = a ∨ H b = some (.own a)) → h.get? b = some u → h'.get? b = some u)
    (ho : ∀ b, H b = some (.own a) → H' b = some (.own a)) (ht : ∀ b xs, H b = some (.tup xs) → H' b = some (.tup xs)) : ObjOk P w H' h' a o := by
  induction o with
  | lst xs => obtain ⟨z, its, n, r, e⟩ := x; exact ⟨z, its, n, r, k _ _ (.inl rfl) e⟩
  | tup xs => obtain ⟨z, its, r, ob, e, c⟩ := x; exact ⟨z, its, r, ob, k _ _ (.inl rfl) e, c⟩
  | dK kvs => obtain ⟨z, y, vs, r, ob, es, ep, e, c⟩ := x; exact ⟨z, y, vs, r, ob, es, ep, k _ _ (.inl rfl) e, c⟩
  | dT kvs =>
    obtain ⟨z, y, xs, r, ob, es, ep, e, c⟩ := x
    exact ⟨z, y, xs, Paired.mapP r fun p q z => ⟨z.1, ht _ _ z.2.1, z.2.2⟩, ob, es, ep, k _ _ (.inl rfl) e, c⟩
  | set S n => obtain ⟨ob, es, ep, t, e, c⟩ := x; exact ⟨ob, es, ep, t, k _ _ (.inl rfl) e, c⟩
  | ins C dx fs =>
    obtain ⟨d, z, ne, e, mA, ⟨od, es, ep, e2, c⟩, r⟩ := x
    exact ⟨ho _ d, z, ne, k _ _ (.inl rfl) e, mA, ⟨od, es, ep, k _ _ (.inr d) e2, c⟩, r⟩
  | own y => obtain ⟨ob, e⟩ := x; exact ⟨ob, k _ _ (.inl rfl) e⟩
  | xd fs => obtain ⟨mA, ⟨od, es, ep, e, c⟩, r⟩ := x; exact ⟨mA, ⟨od, es, ep, k _ _ (.inl rfl) e, c⟩, r⟩
  | rng lo hi => obtain ⟨t, u, v, e⟩ := x; exact ⟨t, u, v, k _ _ (.inl rfl) e⟩
  | frz ob u ih => obtain ⟨e, q⟩ := x; exact ⟨k _ _ (.inl rfl) e, ih q⟩
  | tbl ps =>
    have e : h.get? a = some { cls := .none, data := .fields ps } := x
    show h'.get? a = some { cls := .none, data := .fields ps }
    exact k a _ (.inl rfl) e
  | met f y =>
    have e : h.get? a = some (PySem.W.methodObj (.ref f) (.ref y)) := x
    show h'.get? a = some (PySem.W.methodObj (.ref f) (.ref y))
    exact k a _ (.inl rfl) e
  | ext φ => obtain ⟨p, ⟨o, e⟩, st⟩ := x; exact ⟨st _ _ p fun o q => k _ _ (.inl rfl) q, ⟨o, k _ _ (.inl rfl) e⟩, st⟩
theorem HOk.lt (x : HOk P w H h) (e : H a = some o) : a < h.objs.size := (x a o e).lt
theorem HOk.fresh (x : HOk P w H h) (e : h.objs.size ≤ a) : H a = none := by
  cases q : H a with
  | none => rfl
  | some u => exact absurd (Nat.lt_of_lt_of_le (x.lt q) e) (Nat.lt_irrefl _)
/-- every object of the heap is kept -/
theorem HOk.kept (x : HOk P w H h) (k : ∀ b u, h.get? b = some u → h'.get? b = some u) : HOk P w H h' := fun a o e =>
  (x a o e).stay (fun b u _ q => k b u q) (fun _ q => q) fun _ _ q => q
/-- a new object is laid and tracked -/
theorem HOk.laid (x : HOk P w H h) (k : ∀ b u, h.get? b = some u → h'.get? b = some u) (hp : h.objs.size ≤ a) (new : ObjOk P w (upd H a o) h' a o) : HOk P w (upd H a o) h' := fun b u e => by
  have hn := x.fresh hp
  by_cases hb : b = a
  · subst hb; rw [upd_same] at e; cases e; exact new
  · rw [upd_ne hb] at e
    exact (x b u e).stay (fun c v _ q => k c v q) (fun c q => by rw [upd_ne (ne_of_none q hn)]; exact q) fun c xs q => by rw [upd_ne (ne_of_none q hn)]; exact q
end
/-- what may be read as u: it is u, or a known u -/
def Rd (H : Hp) (a : Addr) (u : HO) : Prop := H a = some u ∨ ∃ o, H a = some (.frz o u)
theorem Rd.of {H : Hp} {a : Addr} {u : HO} (h : H a = some u) : Rd H a u := .inl h
theorem Rd.ok {P : Program} {w : World} {H : Hp} {h : Heap} {a : Addr} {u : HO} (r : Rd H a u) (x : HOk P w H h) : ObjOk P w H h a u := by
  rcases r with r | ⟨o, r⟩
  · exact x a u r
  · obtain ⟨_, q⟩ := x a _ r
    exact q
/-- what may be written -/
def Mut : Option HO → Prop
  | some (.lst _) => True
  | some (.dK _) => True
  | some (.dT _) => True
  | some (.set _ _) => True
  | some (.ins _ _ _) => True
  | some (.ext _) => True
  | _ => False
section
variable {P : Program} {w : World} {H : Hp} {h h' : Heap} {x e : Addr} {o' : HO}
/-- the object at e is changed: x itself, or the dict of the instance x -/
theorem HOk.write (ok : HOk P w H h) (mu : Mut (H x)) (he : e = x ∨ H e = some (.own x)) (k : ∀ b u, b ≠ e → h.get? b = some u → h'.get? b = some u) (heo : ∃ u, h'.get? e = some u)
    (new : ObjOk P w (upd H x o') h' x o') : HOk P w (upd H x o') h' := fun b u q => by
  have nown : ∀ c y, H c = some (.own y) → c ≠ x := fun c y r z => by subst z; rw [r] at mu; exact mu
  have ntup : ∀ c xs, H c = some (.tup xs) → c ≠ x := fun c xs r z => by subst z; rw [r] at mu; exact mu
  by_cases hb : b = x
  · subst hb; rw [upd_same] at q; cases q; exact new
  · rw [upd_ne hb] at q
    by_cases hbe : b = e
    · have q' : H b = some (.own x) := by
        rcases he with z | z
        · exact absurd (hbe.trans z) hb
        · rw [hbe]; exact z
      rw [q] at q'; cases q'
      obtain ⟨v, hv⟩ := heo
      exact ⟨v, by rw [hbe]; exact hv⟩
    · refine (ok b u q).stay (fun c v hc r => k c v ?_ r) (fun c r => by rw [upd_ne (nown c b r)]; exact r) fun c xs r => by rw [upd_ne (ntup c xs r)]; exact r
      rcases hc with rfl | hc
      · exact hbe
      · rintro rfl
        rcases he with z | z
        · exact nown c b hc z
        · rw [hc] at z; cases z; exact hb rfl
end
structure Un (fs ex : List Addr) (H H' : Hp) (h h' : Heap) : Prop where
  keep : ∀ b o, h.get? b = some o → H b = none → b ∉ fs → b ∉ ex → h'.get? b = some o
  slot : ∀ b o, h.get? b = some o → H b = none → b ∈ fs → b ∉ ex → ∃ sl, h'.get? b = some { o with slots := sl }
  free : ∀ b o, h.get? b = some o → H b = none → b ∉ ex → H' b = none
  there : ∀ b o, h.get? b = some o → b ∉ ex → ∃ o', h'.get? b = some o'
  tups : ∀ b xs, H b = some (.tup xs) → H' b = some (.tup xs)
  frzs : ∀ b o u, H b = some (.frz o u) → H' b = some (.frz o u)
  tbls : ∀ b ps, H b = some (.tbl ps) → ∃ more, H' b = some (.tbl (ps ++ more))
section
variable {fs fs' ex ex' : List Addr} {H H1 H2 : Hp} {h h1 h2 h' : Heap} {a x e : Addr} {o : HO}
theorem Un.any (u : Un fs ex H H1 h h1) {b : Addr} {ob : Obj} (q : h.get? b = some ob) (n : H b = none) (hx : b ∉ ex) : ∃ sl, h1.get? b = some { ob with slots := sl } := by
  by_cases hb : b ∈ fs
  · exact u.slot b ob q n hb hx
  · exact ⟨ob.slots, u.keep b ob q n hb hx⟩
theorem Un.trans (a : Un fs ex H H1 h h1) (b : Un fs ex H1 H2 h1 h2) : Un fs ex H H2 h h2 where
  keep := fun c ob q n hc hx => b.keep c ob (a.keep c ob q n hc hx) (a.free c ob q n hx) hc hx
  slot := fun c ob q n hc hx => by
    obtain ⟨sl, e1⟩ := a.slot c ob q n hc hx
    obtain ⟨sl', e2⟩ := b.slot c _ e1 (a.free c ob q n hx) hc hx
    exact ⟨sl', e2⟩
  free := fun c ob q n hx => by
    obtain ⟨o', e1⟩ := a.there c ob q hx
    exact b.free c o' e1 (a.free c ob q n hx) hx
  there := fun c ob q hx => by
    obtain ⟨o', e1⟩ := a.there c ob q hx
    exact b.there c o' e1 hx
  tups := fun c xs q => b.tups c xs (a.tups c xs q)
  frzs := fun c ob xs q => b.frzs c ob xs (a.frzs c ob xs q)
  tbls := fun c ps q => by
    obtain ⟨m1, e1⟩ := a.tbls c ps q
    obtain ⟨m2, e2⟩ := b.tbls c _ e1
    exact ⟨m1 ++ m2, by rw [e2, Array.append_assoc]⟩
theorem Un.kept (k : ∀ b u, h.get? b = some u → h'.get? b = some u) : Un fs ex H H h h' :=
  ⟨fun b ob q _ _ _ => k b ob q, fun b ob q _ _ _ => ⟨ob.slots, k b ob q⟩, fun _ _ _ n _ => n, fun b ob q _ => ⟨ob, k b ob q⟩, fun _ _ q => q, fun _ _ _ q => q, fun _ ps q => ⟨#[], by rw [q]; simp⟩⟩
theorem Un.refl : Un fs ex H H h h := Un.kept fun _ _ q => q
theorem Un.laid (k : ∀ b u, h.get? b = some u → h'.get? b = some u) (hp : h.objs.size ≤ a) (hn : H a = none) : Un fs ex H (upd H a o) h h' where
  keep := fun b u q _ _ _ => k b u q
  slot := fun b u q _ _ _ => ⟨u.slots, k b u q⟩
  free := fun b u q n _ => by rw [upd_ne (Nat.ne_of_lt (Nat.lt_of_lt_of_le (Heap.lt_size q) hp))]; exact n
  there := fun b u q _ => ⟨u, k b u q⟩
  tups := fun b xs q => by rw [upd_ne (ne_of_none q hn)]; exact q
  frzs := fun b u xs q => by rw [upd_ne (ne_of_none q hn)]; exact q
  tbls := fun b ps q => ⟨#[], by rw [upd_ne (ne_of_none q hn), q]; simp⟩
theorem Un.write (mu : Mut (H x)) (he : e = x ∨ H e = some (.own x)) (k : ∀ b u, b ≠ e → h.get? b = some u → h'.get? b = some u) (heo : ∃ u, h'.get? e = some u) : Un fs ex H (upd H x o) h h' := by
  have hx : ∀ b, H b = none → b ≠ x := fun b n z => by subst z; rw [n] at mu; exact mu
  have hb : ∀ b, H b = none → b ≠ e := fun b n z => by
    subst z
    rcases he with r | r
    · exact hx b n r
    · rw [n] at r; cases r
  have hm : ∀ b u, H b = some u → ¬ Mut (some u) → b ≠ x := fun b u q nm z => by subst z; rw [q] at mu; exact nm mu
  refine ⟨fun b u q n _ _ => k b u (hb b n) q, fun b u q n _ _ => ⟨u.slots, k b u (hb b n) q⟩, fun b u q n _ => by rw [upd_ne (hx b n)]; exact n, fun b u q _ => ?_,
    fun b xs q => by rw [upd_ne (hm b _ q fun z => z)]; exact q, fun b u xs q => by rw [upd_ne (hm b _ q fun z => z)]; exact q, fun b ps q => ⟨#[], by rw [upd_ne (hm b _ q fun z => z), q]; simp⟩⟩
  by_cases hbe : b = e
  · subst hbe; exact heo
  · exact ⟨u, k b u hbe q⟩
theorem Un.mono (u : Un fs ex H H1 h h1) (hs : ∀ b ∈ fs, b ∈ fs') (hx : ∀ b ∈ ex, b ∈ ex') : Un fs' ex' H H1 h h1 :=
  ⟨fun b ob q n hb he => u.keep b ob q n (fun z => hb (hs b z)) fun z => he (hx b z), fun _ _ q n _ he => u.any q n fun z => he (hx _ z), fun b ob q n he => u.free b ob q n fun z => he (hx b z), fun b ob q he => u.there b ob q fun z => he (hx b z), u.tups, u.frzs, u.tbls⟩
end
def trk (h : Heap) (H : Hp) : List Addr := (List.range h.objs.size).filter fun a => (H a).isSome
def hidT (h : Heap) (H : Hp) : Heap := PySem.W.hideAll h (trk h H)
theorem hidT_size (h : Heap) (H : Hp) : (hidT h H).objs.size = h.objs.size := PySem.W.hideAll_size _ _
theorem hidT_get {h : Heap} {H : Hp} {b : Addr} {o : Obj} (e : h.get? b = some o) (n : H b = none) : (hidT h H).get? b = some o :=
  PySem.W.hideAll_get _ e fun hm => by
    have q : (H b).isSome = true := (List.mem_filter.mp hm).2
    rw [n] at q; simp at q
theorem of_hidT {h : Heap} {H : Hp} {b : Addr} {o : Obj} (e : (hidT h H).get? b = some o) : h.get? b = some o ∧ H b = none := by
  have e' : h.get? b = some o := PySem.W.of_hideAll (trk h H) e
  refine ⟨e', ?_⟩
  cases q : H b with
  | none => rfl
  | some x =>
    have hm : b ∈ trk h H := List.mem_filter.mpr ⟨List.mem_range.mpr (Heap.lt_size e'), by simp [q]⟩
    have z : (hidT h H).get? b = none := PySem.W.hideAll_none (trk h H) hm
    rw [z] at e; cases e
def allNews (g h : Heap) (L : Addr) : List (Addr × Obj) := (List.range h.objs.size).filterMap fun a => if a = L ∨ (g.get? a).isSome = true then none else (h.get? a).map fun o => (a, o)
def rest (g h : Heap) (L d : Addr) : List (Addr × Obj) := (allNews g h L).filter fun p => decide (p.1 ≠ d)
end L2
namespace L2
open PySem PySem.Spec PyProof.Rows
/-- the module's facts, over the base: the heap at the law's entry without what is tracked there -/
structure Mod (K : PySem.W.Frag) (mg : Str → Option Value) (base : Heap) : Prop where
  kin : K.In base
  glob : base.Ns mainGlobals mg
  blt : ∃ mb, base.Ns builtinsNs mb ∧ ∀ x : Str, x ≠ "__name__" → mb x = bootBuiltins x
  nolimit : base.NoLimit
/-- the context: a def's body (or a comprehension's block) running. base: fixed through the whole law; s₀, H₀: the entry; outer: the frames whose slots others may change (a def's callers); stack: all frames that run;
   ex: iterators that were made ahead of the entry and are walked here (a comprehension's); fn: the names whose cells were made at the entry (a def: all; a comprehension's block: its own); calm: not within an except suite; pn: pins that every state bears; xe: what is wanted of an exception that leaves the code -/
structure Cx where
  prog : Program
  w : World
  K : PySem.W.Frag
  mg : Str → Option Value
  base : Heap
  A : Around
  N : List Str
  s_0 : Shared
  H_0 : Hp
  env : Env
  outer : List Env
  stack : List Env
  ex : List Addr
  fn : Str → Bool
  calm : Bool
  pn : List (Addr × Obj)
  xe : Value → Shared → Prop
/-- the callers' frames -/
def frs (l : List Env) : List Addr := l.filterMap (·.frame)
abbrev Cx.fs (X : Cx) : List Addr := frs X.outer
def Vis (sc : Scope) (x : Str) : Prop := sc.names.lookup x = some .local ∨ sc.names.lookup x = some .cell ∨ sc.names.lookup x = some .free
def Loc (sc : Scope) (x : Str) : Prop := sc.names.lookup x = some .local ∨ sc.names.lookup x = some .cell
def Look (env : Env) (h : Heap) (m : Str → Option Value) (x : Str) (u : Value) : Prop :=
  (env.kindOf x = some .local ∧ m x = some u) ∨ ((env.kindOf x = some .cell ∨ env.kindOf x = some .free) ∧ ∃ c, env.cells.lookup x = some c ∧ h.IsCell c (some u))
structure Cx.Ok (X : Cx) : Prop where
  mod : Mod X.K X.mg X.base
  kind : X.env.scope.kind = .function
  glob : X.env.globals = mainGlobals
  blt : X.env.builtins = builtinsNs
  above : X.s_0.heap.objs.size ≤ X.env.locals
  inj : ∀ x y c, X.env.cells.lookup x = some c → X.env.cells.lookup y = some c → x = y
  has : ∀ x, (X.env.kindOf x = some .cell ∨ X.env.kindOf x = some .free) → ∃ c, X.env.cells.lookup x = some c
  cab : ∀ x c, X.fn x = true → X.env.cells.lookup x = some c → X.s_0.heap.objs.size ≤ c
  hd : X.calm = true → X.A.handled = none
  frames : X.A.frames = some X.stack
  stk : X.stack = X.outer ∨ (X.stack = X.env :: X.outer ∧ X.env.frame = some X.env.locals)
  exf : ∀ b ∈ X.ex, b ≠ X.env.locals ∧ ∀ x c, X.env.cells.lookup x = some c → c ≠ b
  bs : ∀ b o, X.base.get? b = some o → X.s_0.heap.get? b = some o ∧ X.H_0 b = none
  bsz : X.base.objs.size ≤ X.s_0.heap.objs.size
  noex : ∀ b o, X.base.get? b = some o → b ∉ X.ex
  exfs : ∀ b ∈ X.ex, b ∉ X.fs
  funs : X.s_0.heap.FunFrames X.base X.outer
  frf : ∀ b ∈ X.fs, X.H_0 b = none
structure Inv (X : Cx) (pins : List (Addr × Obj)) (σ : List (Option V)) (H : Hp) (s : Shared) : Prop where
  ok : X.Ok
  os : s.os = X.s_0.os
  bare : AllBare s.gens
  base : Un X.fs X.ex X.H_0 H X.s_0.heap s.heap
  loc : ∃ m, s.heap.Ns X.env.locals m ∧ ∀ (i : Nat) (x : Str) (v : V), X.N[i]? = some x → σ[i]? = some (some v) → Vis X.env.scope x → ∃ u, RelV v u ∧ Look X.env s.heap m x u
  cell : ∀ x c, X.env.cells.lookup x = some c → ∃ v, s.heap.IsCell c v
  free : H X.env.locals = none
  freeC : ∀ x c, X.env.cells.lookup x = some c → H c = none
  pin : ∀ p ∈ X.pn ++ pins, s.heap.get? p.1 = some p.2 ∧ H p.1 = none ∧ p.1 ≠ X.env.locals ∧ p.1 ∉ X.fs ∧ ∀ v, p.2.data ≠ .cell v
  hok : HOk X.prog X.w H s.heap
  len : σ.length = X.N.length
section
variable {X : Cx} {pins : List (Addr × Obj)} {σ : List (Option V)} {H H' : Hp} {s : Shared} {h' : Heap}
theorem Cx.Ok.nofr (ok : X.Ok) {b : Addr} {o : Obj} (e : X.base.get? b = some o) : b ∉ X.fs := fun hb => by
  have := (ok.funs.mem hb).1
  rw [e] at this; cases this
theorem Inv.bs (I : Inv X pins σ H s) : ∀ b o, X.base.get? b = some o → s.heap.get? b = some o ∧ H b = none := fun b o e =>
  ⟨I.base.keep b o (I.ok.bs b o e).1 (I.ok.bs b o e).2 (I.ok.nofr e) (I.ok.noex b o e), I.base.free b o (I.ok.bs b o e).1 (I.ok.bs b o e).2 (I.ok.noex b o e)⟩
theorem Inv.bk (I : Inv X pins σ H s) : ∀ b o, X.base.get? b = some o → s.heap.get? b = some o := fun b o e => (I.bs b o e).1
theorem Inv.mod (I : Inv X pins σ H s) : Mod X.K X.mg X.base := I.ok.mod
theorem Inv.kIn (I : Inv X pins σ H s) : X.K.In s.heap := I.ok.mod.kin.keeps I.bk
theorem Inv.nolimit (I : Inv X pins σ H s) : s.heap.NoLimit := I.ok.mod.nolimit.keeps I.bk
/-- the frame over the base: for OpenK's rules (K.In X.base is I.mod.kin) -/
theorem Inv.fr (I : Inv X pins σ H s) : ∃ m, Fr X.base X.env.locals s.heap m :=
  let ⟨m, hn, _⟩ := I.loc
  ⟨m, hn, I.bk, Nat.le_trans I.ok.bsz I.ok.above⟩
theorem Inv.lt (I : Inv X pins σ H s) : X.env.locals < s.heap.objs.size := let ⟨_, hn, _⟩ := I.loc; hn.lt
theorem Inv.sz (I : Inv X pins σ H s) : X.s_0.heap.objs.size ≤ s.heap.objs.size := Nat.le_trans I.ok.above (Nat.le_of_lt I.lt)
theorem Inv.nofs (I : Inv X pins σ H s) {a : Addr} (h : s.heap.objs.size ≤ a) : a ∉ X.fs := fun hb => by
  obtain ⟨_, o, ho, _⟩ := I.ok.funs.mem hb
  exact absurd (Nat.lt_of_lt_of_le (Heap.lt_size ho) (Nat.le_trans I.sz h)) (Nat.lt_irrefl _)
theorem Inv.cne (I : Inv X pins σ H s) : ∀ x c, X.env.cells.lookup x = some c → c ≠ X.env.locals := fun x c e z => by
  obtain ⟨v, o, ho, hd⟩ := I.cell x c e
  obtain ⟨m, ⟨o', es, ep, ho', hd', _⟩, _⟩ := I.loc
  rw [z, ho'] at ho; cases ho; rw [hd'] at hd; cases hd
theorem Inv.funs (I : Inv X pins σ H s) : s.heap.FunFrames X.base X.outer := by
  have all : ∀ (l : List Env), (∀ b ∈ frs l, b ∈ X.fs) → X.s_0.heap.FunFrames X.base l → s.heap.FunFrames X.base l := by
    intro l
    induction l with
    | nil => intro _ _; trivial
    | cons env r ih =>
      intro hs hl
      obtain ⟨hk, ⟨L, o, hf, hn, ho, hd⟩, hr⟩ := hl
      have hL : L ∈ X.fs := hs L (by unfold frs; rw [List.filterMap_cons, hf]; exact List.mem_cons_self)
      obtain ⟨sl, e⟩ := I.base.slot L o ho (I.ok.frf L hL) hL fun z => I.ok.exfs L z hL
      exact ⟨hk, ⟨L, _, hf, hn, e, hd⟩, ih (fun b hb => hs b (by unfold frs; rw [List.filterMap_cons, hf]; exact List.mem_cons_of_mem _ hb)) hr⟩
  exact all X.outer (fun _ hb => hb) I.ok.funs
/-- the frames that run, for a call -/
theorem Inv.stack (I : Inv X pins σ H s) : s.heap.FunFrames X.base X.stack := by
  rcases I.ok.stk with e | ⟨e, hf⟩
  · rw [e]; exact I.funs
  · rw [e]
    obtain ⟨m, hn, _⟩ := I.loc
    refine .cons (by rw [I.ok.kind]; decide) hf hn ?_ I.funs
    exact Heap.get?_none_of_le (Nat.le_trans I.ok.bsz I.ok.above)
theorem Inv.stkSub (I : Inv X pins σ H s) : ∀ b ∈ frs X.stack, b ∈ X.env.locals :: X.fs := fun b hb => by
  rcases I.ok.stk with e | ⟨e, hf⟩
  · rw [e] at hb; exact List.mem_cons_of_mem _ hb
  · rw [e] at hb
    unfold frs at hb
    rw [List.filterMap_cons, hf] at hb
    exact hb
theorem Inv.stkFree (I : Inv X pins σ H s) : ∀ b ∈ frs X.stack, H b = none := fun b hb => by
  rcases List.mem_cons.mp (I.stkSub b hb) with e | hb
  · rw [e]; exact I.free
  · obtain ⟨_, o, ho, _⟩ := I.ok.funs.mem hb
    exact I.base.free b o ho (I.ok.frf b hb) fun z => I.ok.exfs b z hb
/-- THE STEP: the untracked objects but the frame and the records at ch are kept (the callers' frames up to slots), the frame's map is kept, the new abstract heap is held -/
theorem Inv.step {g' : Array GenState} {t' : Nat} {d' : Drawn} {ch : List Addr} (I : Inv X pins σ H s)
    (hch : ∀ b ∈ ch, (b ∈ X.ex ∨ X.s_0.heap.objs.size ≤ b) ∧ b ≠ X.env.locals ∧ (∀ x c, X.env.cells.lookup x = some c → c ≠ b) ∧ ∀ p ∈ X.pn ++ pins, p.1 ≠ b)
    (keep : ∀ b o, b ≠ X.env.locals → b ∉ X.fs → b ∉ ch → s.heap.get? b = some o → H b = none → h'.get? b = some o)
    (slot : ∀ b o, b ≠ X.env.locals → b ∈ X.fs → b ∉ ch → s.heap.get? b = some o → H b = none → ∃ sl, h'.get? b = some { o with slots := sl }) (free : ∀ b o, b ∉ ch → s.heap.get? b = some o → H b = none → H' b = none)
    (there : ∀ b o, b ∉ ch → s.heap.get? b = some o → ∃ o', h'.get? b = some o')
    (tups : ∀ b xs, H b = some (.tup xs) → H' b = some (.tup xs)) (frzs : ∀ b o u, H b = some (.frz o u) → H' b = some (.frz o u)) (tbls : ∀ b ps, H b = some (.tbl ps) → ∃ more, H' b = some (.tbl (ps ++ more)))
    (ns : ∀ m, s.heap.Ns X.env.locals m → h'.Ns X.env.locals m) (hok : HOk X.prog X.w H' h') (hg : AllBare g') :
    Inv X pins σ H' { s with heap := h', gens := g', drawn := d', toks := t' } := by
  have neL : ∀ b o, X.s_0.heap.get? b = some o → b ≠ X.env.locals := fun b o e => Nat.ne_of_lt (Nat.lt_of_lt_of_le (Heap.lt_size e) I.ok.above)
  have neC : ∀ b o, X.s_0.heap.get? b = some o → b ∉ X.ex → b ∉ ch := fun b o e hx hb => by
    rcases (hch b hb).1 with z | z
    · exact hx z
    · exact absurd (Nat.lt_of_lt_of_le (Heap.lt_size e) z) (Nat.lt_irrefl _)
  have cellK : ∀ x c, X.env.cells.lookup x = some c → ∀ v, s.heap.IsCell c v → h'.IsCell c v := fun x c e v ⟨o, ho, hd⟩ => by
    have nch : c ∉ ch := fun z => (hch c z).2.2.1 x c e rfl
    by_cases hc : c ∈ X.fs
    · obtain ⟨sl, q⟩ := slot c o (I.cne x c e) hc nch ho (I.freeC x c e)
      exact ⟨_, q, hd⟩
    · exact ⟨o, keep c o (I.cne x c e) hc nch ho (I.freeC x c e), hd⟩
  refine ⟨I.ok, I.os, hg, ⟨fun b o e n hb hx => ?_, fun b o e n hb hx => ?_, fun b o e n hx => ?_, fun b o e hx => ?_, fun b xs e => tups b xs (I.base.tups b xs e), fun b o xs e => frzs b o xs (I.base.frzs b o xs e), fun b ps e => ?_⟩, ?_, fun x c e => ?_, ?_, fun x c e => ?_, fun p hp => ?_, hok, I.len⟩
  · exact keep b o (neL b o e) hb (neC b o e hx) (I.base.keep b o e n hb hx) (I.base.free b o e n hx)
  · obtain ⟨sl, e1⟩ := I.base.slot b o e n hb hx
    obtain ⟨sl', e2⟩ := slot b _ (neL b o e) hb (neC b o e hx) e1 (I.base.free b o e n hx)
    exact ⟨sl', e2⟩
  · obtain ⟨o', e1⟩ := I.base.there b o e hx
    exact free b o' (neC b o e hx) e1 (I.base.free b o e n hx)
  · obtain ⟨o', e1⟩ := I.base.there b o e hx
    exact there b o' (neC b o e hx) e1
  · obtain ⟨m1, e1⟩ := I.base.tbls b ps e
    obtain ⟨m2, e2⟩ := tbls b _ e1
    exact ⟨m1 ++ m2, by rw [e2, Array.append_assoc]⟩
  · obtain ⟨m, hn, hl⟩ := I.loc
    refine ⟨m, ns m hn, fun i x v e1 e2 e3 => ?_⟩
    obtain ⟨u, r, l⟩ := hl i x v e1 e2 e3
    refine ⟨u, r, ?_⟩
    rcases l with l | ⟨k, c, e, z⟩
    · exact .inl l
    · exact .inr ⟨k, c, e, cellK x c e _ z⟩
  · obtain ⟨v, z⟩ := I.cell x c e
    exact ⟨v, cellK x c e v z⟩
  · obtain ⟨m, ⟨o, _, _, ho, _⟩, _⟩ := I.loc
    exact free _ o (fun z => (hch _ z).2.1 rfl) ho I.free
  · obtain ⟨v, o, ho, hd⟩ := I.cell x c e
    exact free c o (fun z => (hch c z).2.2.1 x c e rfl) ho (I.freeC x c e)
  · obtain ⟨e, n, ne, nf, d⟩ := I.pin p hp
    have nch : p.1 ∉ ch := fun z => (hch p.1 z).2.2.2 p hp rfl
    exact ⟨keep p.1 p.2 ne nf nch e n, free p.1 p.2 nch e n, ne, nf, d⟩
/-- .. where the frame's own object is kept too -/
theorem Inv.un {t' : Nat} (I : Inv X pins σ H s) (u : Un X.fs [] H H' s.heap h') (hok : HOk X.prog X.w H' h') : Inv X pins σ H' { s with heap := h', toks := t' } := by
  obtain ⟨m, ⟨o, es, ep, ho, r⟩, _⟩ := id I.loc
  obtain ⟨sl, hL⟩ := u.any ho I.free (by simp)
  exact I.step (g' := s.gens) (d' := s.drawn) (ch := []) (fun _ z => nomatch z) (fun b o _ hb _ e n => u.keep b o e n hb (by simp)) (fun b o _ hb _ e n => u.slot b o e n hb (by simp)) (fun b o _ e n => u.free b o e n (by simp)) (fun b o _ e => u.there b o e (by simp)) u.tups u.frzs u.tbls (fun m' hm => by
    obtain ⟨o', es', ep', ho', r'⟩ := hm
    rw [ho] at ho'; cases ho'
    exact ⟨_, es', ep', hL, r'⟩) hok I.bare
/-- behind a call (or a comprehension's block): the slots of this frame may have changed too, the records at ch may have turned -/
theorem Inv.call {g' : Array GenState} {t' : Nat} {d' : Drawn} {ch : List Addr} (I : Inv X pins σ H s) (u : Un (frs X.stack) ch H H' s.heap h') (hok : HOk X.prog X.w H' h') (hg : AllBare g')
    (hch : ∀ b ∈ ch, (b ∈ X.ex ∨ X.s_0.heap.objs.size ≤ b) ∧ b ≠ X.env.locals ∧ (∀ x c, X.env.cells.lookup x = some c → c ≠ b) ∧ ∀ p ∈ X.pn ++ pins, p.1 ≠ b) :
    Inv X pins σ H' { s with heap := h', gens := g', drawn := d', toks := t' } := by
  obtain ⟨m, ⟨o, es, ep, ho, r⟩, _⟩ := id I.loc
  obtain ⟨sl, hL⟩ := u.any ho I.free fun z => (hch _ z).2.1 rfl
  exact I.step (ch := ch) hch (fun b o hL hb hc e n => u.keep b o e n (fun z => (List.mem_cons.mp (I.stkSub b z)).elim hL hb) hc) (fun b o _ _ hc e n => u.any e n hc) (fun b o hc e n => u.free b o e n hc) (fun b o hc e => u.there b o e hc) u.tups u.frzs u.tbls (fun m' hm => by
    obtain ⟨o', es', ep', ho', r'⟩ := hm
    rw [ho] at ho'; cases ho'
    exact ⟨_, es', ep', hL, r'⟩) hok hg
/-- an untracked record of ours (an iterator) has turned -/
theorem Inv.turned {t' : Nat} {it : Addr} (I : Inv X pins σ H s) (k : ∀ b o, b ≠ it → s.heap.get? b = some o → h'.get? b = some o) (hn : H it = none) (hL : it ≠ X.env.locals)
    (h1 : it ∈ X.ex ∨ X.s_0.heap.objs.size ≤ it) (h2 : ∀ x c, X.env.cells.lookup x = some c → c ≠ it) (h3 : ∀ p ∈ X.pn ++ pins, p.1 ≠ it) : Inv X pins σ H { s with heap := h', toks := t' } := by
  have nit : ∀ b u, H b = some u → b ≠ it := fun b u e z => by rw [z, hn] at e; cases e
  refine I.step (g' := s.gens) (d' := s.drawn) (ch := [it]) (fun b hb => ?_) (fun b o _ _ hc e _ => k b o (fun z => hc (by simp [z])) e) (fun b o _ _ hc e _ => ⟨o.slots, k b o (fun z => hc (by simp [z])) e⟩) (fun _ _ _ _ n => n)
    (fun b o hc e => ⟨o, k b o (fun z => hc (by simp [z])) e⟩) (fun _ _ e => e) (fun _ _ _ e => e) (fun b ps e => ⟨#[], by rw [e]; simp⟩) (fun m hm => ?_) (fun b u e => ?_) I.bare
  · have e : b = it := by simpa using hb
    subst e
    exact ⟨h1, hL, h2, h3⟩
  · obtain ⟨o, es, ep, ho, r⟩ := hm
    exact ⟨o, es, ep, k _ o (Ne.symm hL) ho, r⟩
  · refine (I.hok b u e).stay (fun c v hc q => k c v ?_ q) (fun _ q => q) fun _ _ q => q
    rcases hc with z | z
    · rw [z]; exact nit b u e
    · exact nit c _ z
theorem Inv.tok (I : Inv X pins σ H s) (t : Nat) : Inv X pins σ H { s with toks := t } := I.un (h' := s.heap) (t' := t) Un.refl I.hok
/-- all objects kept -/
theorem Inv.kept {t' : Nat} (I : Inv X pins σ H s) (k : ∀ b u, s.heap.get? b = some u → h'.get? b = some u) : Inv X pins σ H { s with heap := h', toks := t' } := I.un (Un.kept k) (I.hok.kept k)
/-- a new object laid and tracked -/
theorem Inv.laid {a : Addr} {o : HO} {t' : Nat} (I : Inv X pins σ H s) (k : ∀ b u, s.heap.get? b = some u → h'.get? b = some u) (hp : s.heap.objs.size ≤ a) (new : ObjOk X.prog X.w (upd H a o) h' a o) :
    Inv X pins σ (upd H a o) { s with heap := h', toks := t' } := I.un (Un.laid k hp (I.hok.fresh hp)) (I.hok.laid k hp new)
/-- an object written -/
theorem Inv.write {x e : Addr} {o : HO} {t' : Nat} (I : Inv X pins σ H s) (mu : Mut (H x)) (he : e = x ∨ H e = some (.own x)) (k : ∀ b u, b ≠ e → s.heap.get? b = some u → h'.get? b = some u) (heo : ∃ u, h'.get? e = some u)
    (new : ObjOk X.prog X.w (upd H x o) h' x o) : Inv X pins σ (upd H x o) { s with heap := h', toks := t' } := I.un (Un.write mu he k heo) (I.hok.write mu he k heo new)
theorem Inv.pins_of {pins' : List (Addr × Obj)} (I : Inv X pins σ H s) (h : ∀ p ∈ pins', s.heap.get? p.1 = some p.2 ∧ H p.1 = none ∧ p.1 ≠ X.env.locals ∧ p.1 ∉ X.fs ∧ ∀ v, p.2.data ≠ .cell v) : Inv X pins' σ H s :=
  ⟨I.ok, I.os, I.bare, I.base, I.loc, I.cell, I.free, I.freeC, fun p hp => (List.mem_append.mp hp).elim (fun z => I.pin p (List.mem_append_left _ z)) (h p), I.hok, I.len⟩
theorem nodup_ix {N : List Str} (hN : N.Nodup) {i j : Nat} {x : Str} (a : N[i]? = some x) (b : N[j]? = some x) : i = j := by
  obtain ⟨h1, e1⟩ := List.getElem?_eq_some_iff.mp a
  obtain ⟨h2, e2⟩ := List.getElem?_eq_some_iff.mp b
  exact (List.getElem_inj hN).mp (e1.trans e2.symm)
/-- a name is stored; what changed -/
theorem store_ok2 {M : Model} {A : Around} {E : Value → Shared → Prop} {i : Nat} {x : Str} {v : V} {u : Value} {Q : Unit → Shared → Prop} (I : Inv X pins σ H s) (hN : X.N.Nodup) (hi : X.N[i]? = some x) (hx : Loc X.env.scope x) (r : RelV v u)
    (h : ∀ s', Inv X pins (σ.set i (some v)) H s' → (∃ a, Heap.SameBut a s.heap s'.heap ∧ (a = X.env.locals ∨ X.env.cells.lookup x = some a)) → Q () s') (hf : X.fn x = true ∨ X.env.scope.names.lookup x = some .local := by first | exact .inl rfl | exact .inr rfl | assumption) : wpAny M A (storeName X.env x u) Q E s := by
  obtain ⟨m, hn, hl⟩ := id I.loc
  have hcls : (X.env.scope.kind == .class || (X.env.scope.kind == .module && X.env.locals != X.env.globals)) = false := by rw [I.ok.kind]; rfl
  have hiσ : i < σ.length := by rw [I.len]; exact (List.getElem?_eq_some_iff.mp hi).1
  have cne := I.cne
  have tracked : ∀ {a : Addr} {h' : Heap}, (∃ o, s.heap.get? a = some o ∧ H a = none) → Heap.SameBut a s.heap h' → HOk X.prog X.w H h' := fun {a h'} ha hs b ob e => by
    obtain ⟨_, _, hfree⟩ := ha
    refine (I.hok b ob e).stay (fun c w' hc q => (hs.2 c ?_).trans q) (fun _ q => q) fun _ _ q => q
    rintro rfl
    rcases hc with rfl | hc
    · rw [hfree] at e; cases e
    · rw [hfree] at hc; cases hc
  rcases hx with hk | hk
  · refine wpAny_storeName_local hk hn (fun h' hn' hs => ?_) hcls
    obtain ⟨oL, _, _, hoL, _⟩ := id hn
    refine h _ ⟨I.ok, I.os, I.bare, ⟨fun b o e n hb hx => ?_, fun b o e n hb hx => ?_, I.base.free, fun b o e hx => ?_, I.base.tups, I.base.frzs, I.base.tbls⟩, ⟨_, hn', fun j y v' e1 e2 e3 => ?_⟩, fun y c e => ?_, I.free, I.freeC, fun p hp => ?_, tracked ⟨oL, hoL, I.free⟩ hs, by simpa using I.len⟩ ⟨_, hs, .inl rfl⟩
    · exact (hs.2 b (Nat.ne_of_lt (Nat.lt_of_lt_of_le (Heap.lt_size e) I.ok.above))).trans (I.base.keep b o e n hb hx)
    · obtain ⟨sl, e1⟩ := I.base.slot b o e n hb hx
      exact ⟨sl, (hs.2 b (Nat.ne_of_lt (Nat.lt_of_lt_of_le (Heap.lt_size e) I.ok.above))).trans e1⟩
    · obtain ⟨o', e1⟩ := I.base.there b o e hx
      exact ⟨o', (hs.2 b (Nat.ne_of_lt (Nat.lt_of_lt_of_le (Heap.lt_size e) I.ok.above))).trans e1⟩
    · by_cases hj : j = i
      · subst hj
        rw [hi] at e1; cases e1
        rw [List.getElem?_set_self hiσ] at e2
        cases e2
        exact ⟨u, r, .inl ⟨hk, by simp⟩⟩
      · rw [List.getElem?_set_ne (Ne.symm hj)] at e2
        obtain ⟨u', r', q⟩ := hl j y v' e1 e2 e3
        refine ⟨u', r', ?_⟩
        rcases q with ⟨k, e⟩ | ⟨k, c, e, z⟩
        · refine .inl ⟨k, ?_⟩
          have : y ≠ x := fun e => hj (nodup_ix hN e1 (e ▸ hi))
          simp [this, e]
        · exact .inr ⟨k, c, e, z.sameBut hs (cne y c e)⟩
    · obtain ⟨w', z⟩ := I.cell y c e
      exact ⟨w', z.sameBut hs (cne y c e)⟩
    · obtain ⟨e, n, ne, nf, d⟩ := I.pin p hp
      exact ⟨(hs.2 p.1 ne).trans e, n, ne, nf, d⟩
  · have hfn : X.fn x = true := by
      rcases hf with z | z
      · exact z
      · rw [z] at hk; cases hk
    obtain ⟨c, hc⟩ := I.ok.has x (.inl hk)
    obtain ⟨w', z⟩ := I.cell x c hc
    refine wpAny_storeName_cell I.ok.kind hk hc z (fun h' hc' hs => ?_)
    obtain ⟨oc, hoc, hocd⟩ := id z
    refine h { s with heap := h' } ⟨I.ok, I.os, I.bare, ⟨fun b o e n hb hx => ?_, fun b o e n hb hx => ?_, I.base.free, fun b o e hx => ?_, I.base.tups, I.base.frzs, I.base.tbls⟩, ⟨m, hn.sameBut hs (Ne.symm (cne x c hc)), fun j y v' e1 e2 e3 => ?_⟩, fun y c' e => ?_, I.free, I.freeC, fun p hp => ?_, tracked ⟨oc, hoc, I.freeC x c hc⟩ hs, by simpa using I.len⟩ ⟨c, hs, .inr hc⟩
    · exact (hs.2 b (Nat.ne_of_lt (Nat.lt_of_lt_of_le (Heap.lt_size e) (I.ok.cab x c hfn hc)))).trans (I.base.keep b o e n hb hx)
    · obtain ⟨sl, e1⟩ := I.base.slot b o e n hb hx
      exact ⟨sl, (hs.2 b (Nat.ne_of_lt (Nat.lt_of_lt_of_le (Heap.lt_size e) (I.ok.cab x c hfn hc)))).trans e1⟩
    · obtain ⟨o', e1⟩ := I.base.there b o e hx
      exact ⟨o', (hs.2 b (Nat.ne_of_lt (Nat.lt_of_lt_of_le (Heap.lt_size e) (I.ok.cab x c hfn hc)))).trans e1⟩
    · by_cases hj : j = i
      · subst hj
        rw [hi] at e1; cases e1
        rw [List.getElem?_set_self hiσ] at e2
        cases e2
        exact ⟨u, r, .inr ⟨.inl hk, c, hc, hc'⟩⟩
      · rw [List.getElem?_set_ne (Ne.symm hj)] at e2
        obtain ⟨u', r', q⟩ := hl j y v' e1 e2 e3
        refine ⟨u', r', ?_⟩
        rcases q with q | ⟨k, c', e, z'⟩
        · exact .inl q
        · refine .inr ⟨k, c', e, z'.sameBut hs ?_⟩
          rintro rfl
          exact hj (nodup_ix hN e1 (I.ok.inj _ _ _ e hc ▸ hi))
    · by_cases hcc : c' = c
      · subst hcc; exact ⟨_, hc'⟩
      · obtain ⟨w2, z2⟩ := I.cell y c' e
        exact ⟨w2, z2.sameBut hs hcc⟩
    · obtain ⟨e, n, ne, nf, d⟩ := I.pin p hp
      refine ⟨(hs.2 p.1 ?_).trans e, n, ne, nf, d⟩
      intro q
      rw [q, hoc] at e
      have q' : oc = p.2 := Option.some.inj e
      exact d w' (by rw [← q']; exact hocd)
theorem store_ok {M : Model} {A : Around} {E : Value → Shared → Prop} {i : Nat} {x : Str} {v : V} {u : Value} {Q : Unit → Shared → Prop} (I : Inv X pins σ H s) (hN : X.N.Nodup) (hi : X.N[i]? = some x) (hx : Loc X.env.scope x) (r : RelV v u)
    (h : ∀ s', Inv X pins (σ.set i (some v)) H s' → Q () s') (hf : X.fn x = true ∨ X.env.scope.names.lookup x = some .local := by first | exact .inl rfl | exact .inr rfl | assumption) : wpAny M A (storeName X.env x u) Q E s :=
  store_ok2 I hN hi hx r (fun s' I' _ => h s' I') hf
/-- behind a call or a block, the state as it is -/
theorem Inv.call' {s' : Shared} {ch : List Addr} (I : Inv X pins σ H s) (ho : s'.os = s.os) (u : Un (frs X.stack) ch H H' s.heap s'.heap) (hok : HOk X.prog X.w H' s'.heap) (hg : AllBare s'.gens)
    (hch : ∀ b ∈ ch, (b ∈ X.ex ∨ X.s_0.heap.objs.size ≤ b) ∧ b ≠ X.env.locals ∧ (∀ x c, X.env.cells.lookup x = some c → c ≠ b) ∧ ∀ p ∈ X.pn ++ pins, p.1 ≠ b) : Inv X pins σ H' s' := by
  obtain ⟨h', g', d', t', o'⟩ := s'
  have e : o' = s.os := ho
  subst e
  exact I.call (g' := g') (t' := t') (d' := d') u hok hg hch
end
/-- an exception: its class, its own dict's address (where it has one), the abstract heap behind it -/
abbrev XK := Value → Option Addr → Hp → Prop
abbrev St := List (Option V)
abbrev VK := V → Hp → Prop
/-- an expression's reading; a test's; an argument list's -/
abbrev TE := St → Hp → VK → Prop
abbrev TT := St → Hp → (Bool → Hp → Prop) → Prop
abbrev TA := St → Hp → (List V → Hp → Prop) → Prop
/-- what is wanted behind a statement -/
structure Ends where
  nx : St → Hp → Prop
  rt : VK
  bk : St → Hp → Prop := fun _ _ => False
  ct : St → Hp → Prop := fun _ _ => False
abbrev TS := Ends → St → Hp → Prop
def EP (X : Cx) (pins : List (Addr × Obj)) (σ : St) (Q : VK) (u : Value) (s' : Shared) : Prop := ∃ v H', Inv X pins σ H' s' ∧ RelV v u ∧ Q v H'
def TP (X : Cx) (pins : List (Addr × Obj)) (σ : St) (Q : Bool → Hp → Prop) (b : Bool) (s' : Shared) : Prop := ∃ H', Inv X pins σ H' s' ∧ Q b H'
def AP (X : Cx) (pins : List (Addr × Obj)) (σ : St) (Q : List V → Hp → Prop) (us : List Value) (s' : Shared) : Prop := ∃ vs H', Inv X pins σ H' s' ∧ Vals vs us ∧ Q vs H'
def SP (X : Cx) (pins : List (Addr × Obj)) (D : Ends) (f : Flow) (s' : Shared) : Prop :=
  match f with
  | .next => ∃ σ' H', Inv X pins σ' H' s' ∧ D.nx σ' H'
  | .brk => ∃ σ' H', Inv X pins σ' H' s' ∧ D.bk σ' H'
  | .cont => ∃ σ' H', Inv X pins σ' H' s' ∧ D.ct σ' H'
  | .ret u => ∃ v σ' H', Inv X pins σ' H' s' ∧ RelV v u ∧ D.rt v H'
def PE (X : Cx) (e : Expr) (t : TE) : Prop :=
  ∀ (pins : List (Addr × Obj)) (s : Shared) (σ : St) (H : Hp) (Q : VK), Inv X pins σ H s → t σ H Q → wpAny (model X.prog X.w) X.A (eval e X.env) (EP X pins σ Q) X.xe s
def PT (X : Cx) (e : Expr) (t : TT) : Prop :=
  ∀ (pins : List (Addr × Obj)) (s : Shared) (σ : St) (H : Hp) (Q : Bool → Hp → Prop), Inv X pins σ H s → t σ H Q → wpAny (model X.prog X.w) X.A (isTrue e X.env (eval e X.env)) (TP X pins σ Q) X.xe s
/-- a test whatever its 'whole' is (and, or) -/
def PW (X : Cx) (e : Expr) (t : TT) : Prop :=
  ∀ (whole : Sem Value) (pins : List (Addr × Obj)) (s : Shared) (σ : St) (H : Hp) (Q : Bool → Hp → Prop), Inv X pins σ H s → t σ H Q → wpAny (model X.prog X.w) X.A (isTrue e X.env whole) (TP X pins σ Q) X.xe s
theorem PW.pt {X : Cx} {e : Expr} {t : TT} (h : PW X e t) : PT X e t := h _
/-- an argument list (no star), from the left -/
def PA (X : Cx) (es : List Expr) (t : TA) : Prop :=
  ∀ (pos : Pos) (pins : List (Addr × Obj)) (s : Shared) (σ : St) (H : Hp) (Q : List V → Hp → Prop), Inv X pins σ H s → t σ H Q → wpAny (model X.prog X.w) X.A (spliced (backTo pos (starEach es X.env))) (AP X pins σ Q) X.xe s
def PS (X : Cx) (st : Stmt) (t : TS) : Prop :=
  ∀ (pins : List (Addr × Obj)) (s : Shared) (σ : St) (H : Hp) (D : Ends), Inv X pins σ H s → t D σ H → wpAny (model X.prog X.w) X.A (exec st X.env) (SP X pins D) X.xe s
def PSs (X : Cx) (st : List Stmt) (t : TS) : Prop :=
  ∀ (pins : List (Addr × Obj)) (s : Shared) (σ : St) (H : Hp) (D : Ends), Inv X pins σ H s → t D σ H → wpAny (model X.prog X.w) X.A (execs st X.env) (SP X pins D) X.xe s
/-- weaken the end -/
theorem thn {α : Type} {t : Sem α} {Q Q' : α → Shared → Prop} {M : Model} {A : Around} {E : Value → Shared → Prop} {s : Shared} (h : wpAny M A t Q E s) (hQ : ∀ a s, Q a s → Q' a s) : wpAny M A t Q' E s := wpAny_mono h hQ fun _ _ x => x
end L2
namespace L2
open PySem PySem.Spec PyProof.Rows
section
variable {X : Cx}
def tVar (i : Nat) : TE := fun σ H Q => ∃ v, σ[i]? = some (some v) ∧ Q v H
def tC (v : V) : TE := fun _ H Q => Q v H
theorem pe_var {i : Nat} {x : Str} {pos : Pos} (hN : X.N[i]? = some x) (hv : Vis X.env.scope x) (hd : (x == ("__debug__" : Str)) = false := by decide) (hcd : (x == ("__classdict__" : Str)) = false := by decide) : PE X (.Name x pos) (tVar i) := by
  intro pins s σ H Q I h
  obtain ⟨v, e, h⟩ := h
  obtain ⟨m, hn, hl⟩ := I.loc
  obtain ⟨u, r, l⟩ := hl i x v hN e hv
  have fin : EP X pins σ Q u s := ⟨v, H, I, r, h⟩
  rcases l with ⟨hk, hm⟩ | ⟨hk, c, hc, hcell⟩
  · exact wpAny_Name (wpAny_loadName_local I.ok.kind hk hn hm fin) hd
  · rcases hk with hk | hk
    · exact wpAny_Name (wpAny_loadName_cell I.ok.kind hk hc hcell fin) hd
    · exact wpAny_Name (wpAny_loadName_free I.ok.kind hk hc hcell fin hcd) hd
theorem pe_int {i j pos} : PE X (.Constant (.int i) j pos) (tC (.int i)) := fun _ _ _ H _ I h => wpAny_Constant_int ⟨.int i, H, I.tok _, ⟨_, rfl⟩, h⟩
theorem pe_bl {b j pos} : PE X (.Constant (.bool b) j pos) (tC (.bl b)) := fun _ _ _ H _ I h => Constant_bool ⟨.bl b, H, I, rfl, h⟩
/-- a global name of the def -/
def Gl (X : Cx) (x : Str) : Prop := X.env.kindOf x = some .globalImplicit
theorem ld_glob {E : Value → Shared → Prop} {pins : List (Addr × Obj)} {s : Shared} {σ : St} {H : Hp} {x : Str} {u : Value} {pos : Pos} {Q : Value → Shared → Prop} (I : Inv X pins σ H s) (hg : Gl X x) (hm : X.mg x = some u) (h : Q u s)
    (hd : (x == ("__debug__" : Str)) = false := by decide) : wpAny (model X.prog X.w) X.A (eval (.Name x pos) X.env) Q E s :=
  Calls.Name_function_global I.ok.kind hg (Calls.loadGlobal_global (by rw [I.ok.glob]; exact I.mod.glob.keeps I.bk) hm h) hd
theorem ld_blt {E : Value → Shared → Prop} {pins : List (Addr × Obj)} {s : Shared} {σ : St} {H : Hp} {x : Str} {u : Value} {pos : Pos} {Q : Value → Shared → Prop} (I : Inv X pins σ H s) (hg : Gl X x) (hm : X.mg x = none) (hv : bootBuiltins x = some u) (h : Q u s)
    (hn : x ≠ "__name__" := by decide) (hd : (x == ("__debug__" : Str)) = false := by decide) : wpAny (model X.prog X.w) X.A (eval (.Name x pos) X.env) Q E s := by
  obtain ⟨mb, h1, h2⟩ := I.mod.blt
  exact Calls.Name_function_global I.ok.kind hg (Calls.loadGlobal_builtin (by rw [I.ok.glob]; exact I.mod.glob.keeps I.bk) hm (by rw [I.ok.blt]; exact h1.keeps I.bk) ((h2 x hn).trans hv) h) hd
/-- a module's constant, a class, a function, as a value -/
theorem pe_glob {x : Str} {v : V} {u : Value} {pos : Pos} (hg : Gl X x) (hm : X.mg x = some u) (r : RelV v u) (hd : (x == ("__debug__" : Str)) = false := by decide) : PE X (.Name x pos) (tC v) :=
  fun _ _ _ H _ I h => ld_glob I hg hm ⟨v, H, I, r, h⟩ hd
variable {a b : Expr} {ta tb : TE} {pos : Pos}
def PC (X : Cx) (op : CmpOp) (a b : Expr) (t : TE) : Prop :=
  ∀ (pins : List (Addr × Obj)) (s : Shared) (σ : St) (H : Hp) (Q : VK), Inv X pins σ H s → t σ H Q →
    wpAny (model X.prog X.w) X.A (eval a X.env) (fun v s₁ => wpAny (model X.prog X.w) X.A (eval b X.env) (fun u s₂ => wpAny (model X.prog X.w) X.A (compareOp op v u) (EP X pins σ Q) X.xe s₂) X.xe s₁) X.xe s
theorem nobehind (b : Expr) {op : CmpOp} (h : op ≠ .In) (h2 : op ≠ .NotIn) : behindInMarks op b = false := by
  have e1 : (op == CmpOp.In) = false := by cases op <;> first | rfl | exact absurd rfl h
  have e2 : (op == CmpOp.NotIn) = false := by cases op <;> first | rfl | exact absurd rfl h2
  cases b <;> simp [behindInMarks, e1, e2]
/-- a comparison as a value, as a test -/
def tB (t : TE) : TT := fun σ H Q => t σ H fun x H1 => ∃ c, x = .bl c ∧ Q c H1
theorem pt_cmp {op : CmpOp} {t : TE} (h : PC X op a b t) (h1 : behindInMarks op b = false := by first | exact nobehind _ (by decide) (by decide) | rfl) : PT X (.Compare a [op] [b] pos) (tB t) := by
  intro pins s σ H Q I hw
  refine wpAny_isTrue_Compare1 (thn (h pins s σ H _ I hw) fun v s1 h1 => thn h1 fun u s2 h2 => thn h2 fun c s3 ⟨x, H1, I1, r1, q1⟩ => ?_) h1
  obtain ⟨d, rfl, q⟩ := q1
  cases r1
  exact wpAny_truthy_bool ⟨H1, I1, q⟩
/-- an expression whose value is a bool, as a test -/
theorem pt_val {e : Expr} {t : TE} (h : PE X e t) (he : ∀ whole, isTrue e X.env whole = (do let v ← whole; standAt e.pos; holding [v] (truthy v)) := by intro _; rfl) : PT X e (tB t) := by
  intro pins s σ H Q I hw
  refine isTrue_plain (thn (h pins s σ H _ I hw) fun v s1 ⟨x, H1, I1, r1, q1⟩ => ?_) (he _)
  obtain ⟨d, rfl, q⟩ := q1
  cases r1
  exact wpAny_truthy_bool ⟨H1, I1, q⟩
variable {tA tB' : TT} {rest : List Expr}
def tAnd (t u : TT) : TT := fun σ H Q => t σ H fun c H1 => if c = true then u σ H1 Q else Q false H1
def tOr (t u : TT) : TT := fun σ H Q => t σ H fun c H1 => if c = true then Q true H1 else u σ H1 Q
def tNot (t : TT) : TT := fun σ H Q => t σ H fun c H1 => Q (!c) H1
theorem pw_and1 (ha : PT X a tA) : PW X (.BoolOp .And [a] pos) tA := by
  intro wh pins s σ H Q I h
  refine isTrue_and (thn (ha pins s σ H Q I h) fun c s1 e => ?_)
  cases c with
  | true => exact isTrue_and_nil e
  | false => exact e
theorem pw_or1 (ha : PT X a tA) : PW X (.BoolOp .Or [a] pos) tA := by
  intro wh pins s σ H Q I h
  refine isTrue_or (thn (ha pins s σ H Q I h) fun c s1 e => ?_)
  cases c with
  | false => exact isTrue_or_nil e
  | true => exact e
theorem pw_and (ha : PT X a tA) (hb : PW X (.BoolOp .And (b :: rest) pos) tB') : PW X (.BoolOp .And (a :: b :: rest) pos) (tAnd tA tB') := by
  intro wh pins s σ H Q I h
  refine isTrue_and (thn (ha pins s σ H _ I h) fun c s1 ⟨H1, I1, q1⟩ => ?_)
  cases c with
  | true => exact hb wh pins s1 σ H1 Q I1 q1
  | false => exact ⟨H1, I1, q1⟩
theorem pw_or (ha : PT X a tA) (hb : PW X (.BoolOp .Or (b :: rest) pos) tB') : PW X (.BoolOp .Or (a :: b :: rest) pos) (tOr tA tB') := by
  intro wh pins s σ H Q I h
  refine isTrue_or (thn (ha pins s σ H _ I h) fun c s1 ⟨H1, I1, q1⟩ => ?_)
  cases c with
  | true => exact ⟨H1, I1, q1⟩
  | false => exact hb wh pins s1 σ H1 Q I1 q1
/-- a if t else b -/
def tIf (t : TT) (ta tb : TE) : TE := fun σ H Q => t σ H fun c H1 => if c = true then ta σ H1 Q else tb σ H1 Q
theorem pe_ifExp {c : Expr} (hc : PT X c tA) (ha : PE X a ta) (hb : PE X b tb) : PE X (.IfExp c a b pos) (tIf tA ta tb) := by
  intro pins s σ H Q I h
  refine wpAny_IfExp (thn (hc pins s σ H _ I h) fun d s1 ⟨H1, I1, q1⟩ => ?_)
  cases d with
  | true => exact ha pins s1 σ H1 Q I1 q1
  | false => exact hb pins s1 σ H1 Q I1 q1
end
end L2
namespace L2
open PySem PySem.Spec PyProof.Rows
def SqL (K : PySem.W.Frag) (H : Hp) (a : Addr) (xs : List V) : Prop :=
  Rd H a (.lst xs) ∨
    ∃ (o : Obj) (its : Array Value) (n : Nat), K.lookup a = some o ∧ o.cls = .type "list" ∧ o.dict = none ∧ o.data = .seq its n ∧ its.size ≤ sizeLine ∧ Vals xs its.toList
def SqT (K : PySem.W.Frag) (H : Hp) (a : Addr) (xs : List V) : Prop :=
  Rd H a (.tup xs) ∨
    ∃ (o : Obj) (its : Array Value) (n : Nat), K.lookup a = some o ∧ o.cls = .type "tuple" ∧ o.data = .seq its n ∧ its.size ≤ sizeLine ∧ Vals xs its.toList
def absV : Value → Option V
  | .none => some .non
  | .bool b => some (.bl b)
  | .int i _ => some (.int i)
  | .str x _ => some (.str x)
  | .bytes b _ => some (.byt b)
  | .float b _ => some (.flt b)
  | .ref a => some (.ref a)
  | .type n => some (.ty n)
  | _ => none
theorem RelV.abs {x : V} {u : Value} (r : RelV x u) : absV u = some x := by
  cases x with
  | non => cases r; rfl
  | bl _ => cases r; rfl
  | int _ => obtain ⟨t, rfl⟩ := r; rfl
  | str _ => obtain ⟨t, rfl⟩ := r; rfl
  | byt _ => obtain ⟨t, rfl⟩ := r; rfl
  | flt _ => obtain ⟨t, rfl⟩ := r; rfl
  | ref _ => cases r; rfl
  | ty _ => cases r; rfl
theorem RelV.inj {x y : V} {u : Value} (r : RelV x u) (q : RelV y u) : x = y := Option.some.inj (r.abs.symm.trans q.abs)
theorem Vals.inj : ∀ {xs ys : List V} {us : List Value}, Vals xs us → Vals ys us → xs = ys
  | _, _, _, .nil, .nil => rfl
  | _, _, _, .cons r t, .cons r' t' => by rw [r.inj r', Vals.inj t t']
section
variable {X : Cx} {pins : List (Addr × Obj)} {σ : St} {H : Hp} {s : Shared} {a : Addr} {xs ys : List V}
theorem SqL.of {K : PySem.W.Frag} (h : H a = some (.lst xs)) : SqL K H a xs := .inl (.inl h)
theorem SqT.of {K : PySem.W.Frag} (h : H a = some (.tup xs)) : SqT K H a xs := .inl (.inl h)
theorem Inv.list (I : Inv X pins σ H s) (h : SqL X.K H a xs) : ∃ its : List Value, Vals xs its ∧ PlainL s.heap a its.toArray ∧ xs.length ≤ sizeLine := by
  rcases h with h | ⟨o, its, n, hk, hc, hd, hs, hz, r⟩
  · obtain ⟨z, its, n, r, e⟩ := h.ok I.hok
    exact ⟨its, r, ⟨_, n, e, rfl, rfl, rfl⟩, z⟩
  · refine ⟨its.toList, r, ⟨o, n, I.kIn a o hk, hc, hd, by simpa using hs⟩, ?_⟩
    have e := r.length
    simp only [Array.length_toList] at e
    omega
theorem Inv.tuple (I : Inv X pins σ H s) (h : SqT X.K H a xs) : ∃ its : List Value, Vals xs its ∧ IsTup s.heap a its.toArray ∧ xs.length ≤ sizeLine := by
  rcases h with h | ⟨o, its, n, hk, hc, hs, hz, r⟩
  · obtain ⟨z, its, r, p⟩ := h.ok I.hok
    exact ⟨its, r, p, z⟩
  · refine ⟨its.toList, r, ⟨o, I.kIn a o hk, hc, n, by simpa using hs⟩, ?_⟩
    have e := r.length
    simp only [Array.length_toList] at e
    omega
theorem Inv.list_inj (I : Inv X pins σ H s) (h : SqL X.K H a xs) (h' : SqL X.K H a ys) : xs = ys := by
  obtain ⟨its, r, ⟨o, n, e, _, _, d⟩, _⟩ := I.list h
  obtain ⟨its', r', ⟨o', n', e', _, _, d'⟩, _⟩ := I.list h'
  rw [e] at e'; cases e'
  rw [d] at d'
  injection d' with d1 _
  have : its = its' := by simpa using congrArg Array.toList d1
  subst this
  exact r.inj r'
end
abbrev Cx.wish (X : Cx) (E : Value → Shared → Prop) : Cx := { X with xe := E }
/-- no exception leaves -/
abbrev Cx.nox (X : Cx) : Cx := X.wish fun _ _ => False
theorem Cx.Ok.wish {X : Cx} (ok : X.Ok) (E : Value → Shared → Prop) : (X.wish E).Ok :=
  ⟨ok.mod, ok.kind, ok.glob, ok.blt, ok.above, ok.inj, ok.has, ok.cab, ok.hd, ok.frames, ok.stk, ok.exf, ok.bs, ok.bsz, ok.noex, ok.exfs, ok.funs, ok.frf⟩
theorem Cx.Ok.unwish {X : Cx} {E : Value → Shared → Prop} (ok : (X.wish E).Ok) : X.Ok :=
  ⟨ok.mod, ok.kind, ok.glob, ok.blt, ok.above, ok.inj, ok.has, ok.cab, ok.hd, ok.frames, ok.stk, ok.exf, ok.bs, ok.bsz, ok.noex, ok.exfs, ok.funs, ok.frf⟩
section
variable {X : Cx} {pins : List (Addr × Obj)} {σ : St} {H : Hp} {s : Shared} {E : Value → Shared → Prop}
theorem Inv.wish (I : Inv X pins σ H s) (E : Value → Shared → Prop) : Inv (X.wish E) pins σ H s := ⟨I.ok.wish E, I.os, I.bare, I.base, I.loc, I.cell, I.free, I.freeC, I.pin, I.hok, I.len⟩
theorem Inv.unwish (I : Inv (X.wish E) pins σ H s) : Inv X pins σ H s := ⟨I.ok.unwish, I.os, I.bare, I.base, I.loc, I.cell, I.free, I.freeC, I.pin, I.hok, I.len⟩
theorem SP.unwish {D : Ends} {f : Flow} {s' : Shared} (h : SP (X.wish E) pins D f s') : SP X pins D f s' := by
  cases f with
  | next => obtain ⟨σ', H', I, q⟩ := h; exact ⟨σ', H', I.unwish, q⟩
  | brk => obtain ⟨σ', H', I, q⟩ := h; exact ⟨σ', H', I.unwish, q⟩
  | cont => obtain ⟨σ', H', I, q⟩ := h; exact ⟨σ', H', I.unwish, q⟩
  | ret u => obtain ⟨v, σ', H', I, r, q⟩ := h; exact ⟨v, σ', H', I.unwish, r, q⟩
theorem PE.nox {e : Expr} {t : TE} (h : PE X.nox e t) : PE X e t := fun pins s σ H Q I hw =>
  wpAny_mono (h pins s σ H Q (I.wish _) hw) (fun _ _ ⟨v, H', I', r, q⟩ => ⟨v, H', I'.unwish, r, q⟩) fun _ _ z => False.elim z
theorem PT.nox {e : Expr} {t : TT} (h : PT X.nox e t) : PT X e t := fun pins s σ H Q I hw =>
  wpAny_mono (h pins s σ H Q (I.wish _) hw) (fun _ _ ⟨H', I', q⟩ => ⟨H', I'.unwish, q⟩) fun _ _ z => False.elim z
theorem PSs.nox {st : List Stmt} {t : TS} (h : PSs X.nox st t) : PSs X st t := fun pins s σ H D I hw =>
  wpAny_mono (h pins s σ H D (I.wish _) hw) (fun _ _ q => q.unwish) fun _ _ z => False.elim z
end
section
variable {X : Cx} {st : Stmt} {rest : List Stmt} {t u : TS} {e : Expr} {te : TE} {pos : Pos}
def tNext : TS := fun D σ H => D.nx σ H
def tSeq (t u : TS) : TS := fun D σ H => t { D with nx := u D } σ H
theorem pss_nil : PSs X [] tNext := fun _ _ σ H _ I h => wpAny_execs_nil ⟨σ, H, I, h⟩
theorem pss_cons (h1 : PS X st t) (h2 : PSs X rest u) : PSs X (st :: rest) (tSeq t u) := by
  intro pins s σ H D I h
  refine wpAny_execs_cons (thn (h1 pins s σ H { D with nx := u D } I h) fun f s1 q => ?_)
  cases f with
  | next =>
    obtain ⟨σ', H', I', q⟩ := q
    exact h2 pins s1 σ' H' D I' q
  | ret v => exact q
  | brk => exact q
  | cont => exact q
theorem pss_one (h1 : PS X st t) : PSs X [st] t := by
  intro pins s σ H D I h
  refine wpAny_execs_cons (thn (h1 pins s σ H D I h) fun f s1 q => ?_)
  cases f with
  | next => exact wpAny_execs_nil q
  | ret v => exact q
  | brk => exact q
  | cont => exact q
/-- in a def's body nothing is shown -/
theorem Inv.quiet {pins : List (Addr × Obj)} {σ : St} {H : Hp} {s : Shared} (I : Inv X pins σ H s) : interactive X.env = false := by simp [interactive, I.ok.kind]
/-- an expression whose value is dropped -/
def tDrop (te : TE) : TS := fun D σ H => te σ H fun _ H1 => D.nx σ H1
theorem ps_expr (he : PE X e te) (hs : swapsWith e none pos.line X.env = pure false := by rfl) : PS X (.Expr e pos) (tDrop te) := by
  intro pins s σ H D I h
  exact wpAny_Expr_any (thn (he pins s σ H _ I h) fun v s1 ⟨x, H1, I1, r1, q1⟩ => ⟨σ, H1, I1, q1⟩) I.quiet hs
def tRet (te : TE) : TS := fun D σ H => te σ H D.rt
theorem ps_ret (he : PE X e te) : PS X (.Return (some e) pos) (tRet te) := by
  intro pins s σ H D I h
  exact wpAny_Return_some (thn (he pins s σ H _ I h) fun v s1 ⟨x, H1, I1, r1, q1⟩ => ⟨x, σ, H1, I1, r1, q1⟩)
def tIfS (c : TT) (t u : TS) : TS := fun D σ H => c σ H fun b H1 => if b = true then t D σ H1 else u D σ H1
theorem ps_if {c : Expr} {a b : List Stmt} {tc : TT} (hc : PT X c tc) (ha : PSs X a t) (hb : PSs X b u) : PS X (.If c a b pos) (tIfS tc t u) := by
  intro pins s σ H D I h
  refine wpAny_If (thn (hc pins s σ H _ I h) fun d s1 ⟨H1, I1, q1⟩ => ?_)
  cases d with
  | true => exact ha pins s1 σ H1 D I1 q1
  | false => exact hb pins s1 σ H1 D I1 q1
end
abbrev TG := V → St → Hp → (St → Hp → Prop) → Prop
abbrev TGs := List V → St → Hp → (St → Hp → Prop) → Prop
def PG (X : Cx) (target : Expr) (t : TG) : Prop :=
  ∀ (pins : List (Addr × Obj)) (s : Shared) (σ : St) (H : Hp) (v : V) (u : Value) (Q : St → Hp → Prop), Inv X pins σ H s → RelV v u → t v σ H Q →
    wpAny (model X.prog X.w) X.A (assign target X.env u) (fun _ s' => ∃ σ' H', Inv X pins σ' H' s' ∧ Q σ' H') X.xe s
/-- several targets, one after another -/
def PGs (X : Cx) (ts : List Expr) (t : TGs) : Prop :=
  ∀ (pins : List (Addr × Obj)) (s : Shared) (σ : St) (H : Hp) (vs : List V) (us : List Value) (Q : St → Hp → Prop), Inv X pins σ H s → Vals vs us → t vs σ H Q →
    wpAny (model X.prog X.w) X.A (assignInOrder ((assignEach ts X.env).map (·.2)) us) (fun _ s' => ∃ σ' H', Inv X pins σ' H' s' ∧ Q σ' H') X.xe s
/-- a op= b, by values -/
abbrev TIp := V → V → Hp → VK → Prop
def PIp (X : Cx) (op : Operator) (t : TIp) : Prop :=
  ∀ (pins : List (Addr × Obj)) (s : Shared) (σ : St) (H : Hp) (x y : V) (v u : Value) (Q : VK), Inv X pins σ H s → RelV x v → RelV y u → t x y H Q →
    wpAny (model X.prog X.w) X.A (inplaceOp op v u) (EP X pins σ Q) X.xe s
section
variable {X : Cx} {pos : Pos}
def gName (i : Nat) : TG := fun v σ H Q => Q (σ.set i (some v)) H
theorem pg_name {i : Nat} {x : Str} (hN : X.N.Nodup) (hi : X.N[i]? = some x) (hx : Loc X.env.scope x) (hf : X.fn x = true ∨ X.env.scope.names.lookup x = some .local := by first | exact .inl rfl | exact .inr rfl | assumption) : PG X (.Name x pos) (gName i) := by
  intro pins s σ H v u Q I r h
  exact wpAny_assign_Name (store_ok I hN hi hx r (fun s' I' => ⟨_, H, I', h⟩) hf)
def gNil : TGs := fun vs σ H Q => vs = [] ∧ Q σ H
def gCons (t : TG) (u : TGs) : TGs := fun vs σ H Q => ∃ v r, vs = v :: r ∧ t v σ H fun σ' H' => u r σ' H' Q
theorem pgs_nil : PGs X [] gNil := by
  intro pins s σ H vs us Q I r h
  obtain ⟨e, h⟩ := h
  subst e
  cases r
  exact assignInOrder_nil ⟨σ, H, I, h⟩
theorem pgs_cons {e : Expr} {es : List Expr} {t : TG} {u : TGs} (h1 : PG X e t) (h2 : PGs X es u)
    (hs : (assignEach (e :: es) X.env).map (·.2) = assign e X.env :: (assignEach es X.env).map (·.2) := by rfl) : PGs X (e :: es) (gCons t u) := by
  intro pins s σ H vs us Q I r h
  obtain ⟨v, vr, e1, h⟩ := h
  subst e1
  cases r with
  | cons r rr =>
    rw [hs]
    refine assignInOrder_cons (thn (h1 pins s σ H _ _ _ I r h) fun _ s1 ⟨σ1, H1, I1, q1⟩ => ?_)
    exact h2 pins s1 σ1 H1 _ _ Q I1 rr q1
/-- (a, b, ..) = a tuple of that length -/
def gTup (K : PySem.W.Frag) (n : Nat) (t : TGs) : TG := fun v σ H Q => ∃ a xs, v = .ref a ∧ SqT K H a xs ∧ xs.length = n ∧ t xs σ H Q
theorem pg_tup {es : List Expr} {k : Nat} {t : TGs} {n : Nat} (hc : X.calm = true) (h : PGs X es t)
    (hn : (assignEach es X.env).length = n := by rfl) (hst : (assignEach es X.env).findIdx? (·.1) = none := by rfl) : PG X (.Tuple es k pos) (gTup X.K n t) := by
  intro pins s σ H v u Q I r hw
  obtain ⟨a, xs, e1, hq, hl, hw⟩ := hw
  subst e1
  cases r
  obtain ⟨its, rv, ht, hz⟩ := I.tuple hq
  refine assign_Tuple_tuple (I.ok.hd hc) ht (by simp [hn, ← hl, rv.length]) hst fun h' hx => ?_
  have I1 : Inv X pins σ H { s with heap := h' } := I.kept (t' := s.toks) fun b o e => hx b o (Nat.ne_of_lt (Heap.lt_size e)) e
  exact h pins _ σ H xs _ Q I1 (by simpa using rv) hw
/-- target = value -/
def tAsg (te : TE) (g : TG) : TS := fun D σ H => te σ H fun x H1 => g x σ H1 D.nx
/-- name = value -/
theorem ps_set {i : Nat} {x : Str} {e : Expr} {te : TE} {pos' : Pos} (hN : X.N.Nodup) (hi : X.N[i]? = some x) (hx : Loc X.env.scope x) (he : PE X e te) (hs : swapsWith e (some (.Name x pos')) pos.line X.env = pure false := by rfl) (hf : X.fn x = true ∨ X.env.scope.names.lookup x = some .local := by first | exact .inl rfl | exact .inr rfl | assumption) :
    PS X (.Assign [.Name x pos'] e pos) (tAsg te (gName i)) := by
  intro pins s σ H D I h
  refine wpAny_Assign_Name (thn (he pins s σ H _ I h) fun v s1 ⟨y, H1, I1, r1, q1⟩ => ?_) hs
  exact store_ok I1 hN hi hx r1 (fun s2 I2 => ⟨_, H1, I2, q1⟩) hf
/-- name op= e -/
def tAug (i : Nat) (te : TE) (ti : TIp) : TS := fun D σ H => ∃ x, σ[i]? = some (some x) ∧ te σ H fun y H1 => ti x y H1 fun z H2 => D.nx (σ.set i (some z)) H2
theorem ps_aug {i : Nat} {x : Str} {e : Expr} {te : TE} {op : Operator} {ti : TIp} {pos' : Pos} (hN : X.N.Nodup) (hi : X.N[i]? = some x) (hx : Loc X.env.scope x) (he : PE X e te) (ho : PIp X op ti) (hf : X.fn x = true ∨ X.env.scope.names.lookup x = some .local := by first | exact .inl rfl | exact .inr rfl | assumption) :
    PS X (.AugAssign (.Name x pos') op e pos) (tAug i te ti) := by
  intro pins s σ H D I h
  obtain ⟨v, e1, h⟩ := h
  obtain ⟨m, hn, hl⟩ := I.loc
  have vis : Vis X.env.scope x := by rcases hx with k | k; exact .inl k; exact .inr (.inl k)
  obtain ⟨u, r, l⟩ := hl i x v hi e1 vis
  refine wpAny_AugAssign_Name ?_
  have go : wpAny (model X.prog X.w) X.A (eval e X.env) (fun w s₂ => wpAny (model X.prog X.w) X.A (inplaceOp op u w) (fun r s₃ => wpAny (model X.prog X.w) X.A (storeName X.env x r) (fun _ => SP X pins D .next) X.xe s₃) X.xe s₂) X.xe s := by
    refine thn (he pins s σ H _ I h) fun w s1 ⟨y, H1, I1, r1, q1⟩ => ?_
    refine thn (ho pins s1 σ H1 v y u w _ I1 r r1 q1) fun z s2 ⟨zv, H2, I2, r2, q2⟩ => ?_
    exact store_ok I2 hN hi hx r2 (fun s3 I3 => ⟨_, H2, I3, q2⟩) hf
  rcases l with ⟨hk, hm⟩ | ⟨hk, c, hc, hcell⟩
  · exact wpAny_loadName_local I.ok.kind hk hn hm go
  · rcases hk with hk | hk
    · exact wpAny_loadName_cell I.ok.kind hk hc hcell go
    · rcases hx with k | k
      · have : X.env.scope.names.lookup x = some .free := hk
        rw [k] at this; cases this
      · have : X.env.scope.names.lookup x = some .free := hk
        rw [k] at this; cases this
/-- ints -/
def ipI (f : Int → Int → Int) : TIp := fun x y H Q => ∃ i j, x = .int i ∧ y = .int j ∧ Q (.int (f i j)) H
theorem ip_add : PIp X .Add (ipI fun i j => i + j) := by
  intro pins s σ H x y v u Q I r1 r2 h
  obtain ⟨i, j, e1, e2, q⟩ := h
  subst e1; subst e2
  obtain ⟨t, rfl⟩ := r1
  obtain ⟨t', rfl⟩ := r2
  exact iadd_int ⟨.int _, H, I.tok _, ⟨_, rfl⟩, q⟩
theorem ip_sub : PIp X .Sub (ipI fun i j => i - j) := by
  intro pins s σ H x y v u Q I r1 r2 h
  obtain ⟨i, j, e1, e2, q⟩ := h
  subst e1; subst e2
  obtain ⟨t, rfl⟩ := r1
  obtain ⟨t', rfl⟩ := r2
  exact isub_int ⟨.int _, H, I.tok _, ⟨_, rfl⟩, q⟩
end
section
variable {X : Cx} {pos : Pos}
/-- the invariant W with its measure -/
def tWhile (c : TT) (tb : TS) : TS := fun D σ H => ∃ W : Nat → St → Hp → Prop, (∃ m, W m σ H) ∧ ∀ m σ H, W m σ H →
  c σ H fun b H1 => if b = true then ∃ N : St → Hp → Prop, (∀ σ' H', N σ' H' → ∃ m', m' < m ∧ W m' σ' H') ∧ tb { D with nx := N, ct := N, bk := D.nx } σ H1 else D.nx σ H1
theorem ps_while {c : Expr} {body : List Stmt} {tc : TT} {tb : TS} (hp : PassesOwn (model X.prog X.w) X.A X.env X.xe) (hc : PT X c tc) (hb : PSs X body tb) : PS X (.While c body [] pos) (tWhile tc tb) := by
  intro pins s σ H D I h
  obtain ⟨W, ⟨m0, w0⟩, turn⟩ := h
  refine wpAny_While (codeAny_whileLoop (fun n s' => ∃ σ' H', Inv X pins σ' H' s' ∧ W n σ' H') ?_ m0 ⟨σ, H, I, w0⟩)
  rintro n s1 ⟨σ1, H1, I1, w1⟩
  refine wpAny_passesOwn hp (thn (hc pins s1 σ1 H1 _ I1 (turn n σ1 H1 w1)) fun b s2 ⟨H2, I2, q2⟩ => ?_)
  cases b with
  | true =>
    obtain ⟨N, hN, q2⟩ := q2
    rw [if_pos rfl]
    refine wpAny_passesOwn hp (thn (hb pins s2 σ1 H2 _ I2 q2) fun f s3 q3 => ?_)
    cases f with
    | next =>
      obtain ⟨σ3, H3, I3, n3⟩ := q3
      obtain ⟨m', hm, w3⟩ := hN σ3 H3 n3
      exact ⟨m', hm, σ3, H3, I3, w3⟩
    | cont =>
      obtain ⟨σ3, H3, I3, n3⟩ := q3
      obtain ⟨m', hm, w3⟩ := hN σ3 H3 n3
      exact ⟨m', hm, σ3, H3, I3, w3⟩
    | brk => exact q3
    | ret v => exact q3
  | false =>
    rw [if_neg Bool.false_ne_true]
    exact wpAny_execs_nil ⟨σ1, H2, I2, q2⟩
end
/-- at turn i: it yields x (the heap may grow), or it stops -/
structure It where
  go : Nat → Hp → Prop
  yld : Nat → Hp → V → Hp → Prop
  stop : Nat → Hp → Prop
/-- the iterator's own objects may turn: they are not the frame's, not pinned, younger than the entry (or a comprehension's own) -/
def FpOk (X : Cx) (pins : List (Addr × Obj)) (H : Hp) (b : Addr) : Prop :=
  H b = none ∧ b ≠ X.env.locals ∧ b ∉ X.fs ∧ (b ∈ X.ex ∨ X.s_0.heap.objs.size ≤ b) ∧ (∀ x c, X.env.cells.lookup x = some c → c ≠ b) ∧ ∀ p ∈ X.pn ++ pins, p.1 ≠ b
theorem Inv.fpOk {X : Cx} {pins : List (Addr × Obj)} {σ : St} {H H' : Hp} {s : Shared} {b : Addr} (I : Inv X pins σ H s) (hb : s.heap.objs.size ≤ b) (hn : H' b = none) : FpOk X pins H' b := by
  refine ⟨hn, Nat.ne_of_gt (Nat.lt_of_lt_of_le I.lt hb), I.nofs hb, .inr (Nat.le_trans I.sz hb), fun x c e z => ?_, fun p hp z => ?_⟩
  · obtain ⟨v, q⟩ := I.cell x c e
    exact absurd (Nat.lt_of_lt_of_le q.lt (by rw [z]; exact hb)) (Nat.lt_irrefl _)
  · exact absurd (Nat.lt_of_lt_of_le (Heap.lt_size (I.pin p hp).1) (by rw [z]; exact hb)) (Nat.lt_irrefl _)
structure Turn (P : Program) (w : World) (K : PySem.W.Frag) (tg : Expr) (J : It) (fp : List Addr) (it : Addr) (tn : Nat → Heap → Prop) : Prop where
  mem : it ∈ fp
  obj : ∀ i h, tn i h → ∀ b ∈ fp, ∃ o, h.get? b = some o ∧ ∀ v, o.data ≠ .cell v
  keep : ∀ i h h', tn i h → (∀ b ∈ fp, ∀ o, h.get? b = some o → h'.get? b = some o) → tn i h'
  item : ∀ (X : Cx), X.prog = P → X.w = w → X.K = K → X.calm = true → ∀ (i : Nat) (pins : List (Addr × Obj)) (s : Shared) (σ : St) (H : Hp) (E : Value → Shared → Prop), Inv X pins σ H s → (∀ b ∈ fp, FpOk X pins H b) → tn i s.heap → J.go i H →
    wpAny (model P w) X.A (pyNext (.ref it)) (fun r s1 => ∃ u, r = some u ∧
      wpAny (model P w) X.A (letOwnedTupleGo tg (.ref it) u) (fun _ s2 => ∃ x H', Inv X pins σ H' s2 ∧ RelV x u ∧ J.yld i H x H' ∧ tn (i + 1) s2.heap ∧ ∀ b ∈ fp, H' b = none) E s1) E s
  done : ∀ (X : Cx), X.prog = P → X.w = w → X.K = K → X.calm = true → ∀ (i : Nat) (pins : List (Addr × Obj)) (s : Shared) (σ : St) (H : Hp) (E : Value → Shared → Prop), Inv X pins σ H s → (∀ b ∈ fp, FpOk X pins H b) → tn i s.heap → J.stop i H →
    wpAny (model P w) X.A (pyNext (.ref it)) (fun r s1 => r = none ∧ Inv X pins σ H s1) E s
  self : ∀ (A : Around) (i : Nat) (s : Shared) (Q : Value → Shared → Prop) (E : Value → Shared → Prop), tn i s.heap → Q (.ref it) s → wpAny (model P w) A (pyIter (.ref it)) Q E s
abbrev TI := St → Hp → (It → Hp → Prop) → Prop
/-- an iterator has come -/
def PIE (X : Cx) (pins : List (Addr × Obj)) (σ : St) (tg : Expr) (R : It → Hp → Prop) (itv : Value) (s2 : Shared) : Prop :=
  ∃ (it : Addr) (fp : List Addr) (tn : Nat → Heap → Prop) (J : It) (H' : Hp), itv = .ref it ∧ Inv X pins σ H' s2 ∧ Turn X.prog X.w X.K tg J fp it tn ∧ tn 0 s2.heap ∧ (∀ b ∈ fp, FpOk X pins H' b) ∧ R J H'
def PI (X : Cx) (tg iter : Expr) (wi : TI) : Prop :=
  ∀ (pins : List (Addr × Obj)) (s : Shared) (σ : St) (H : Hp) (R : It → Hp → Prop), Inv X pins σ H s → wi σ H R →
    wpAny (model X.prog X.w) X.A (eval iter X.env) (fun v s1 => wpAny (model X.prog X.w) X.A (pyIter v) (PIE X pins σ tg R) X.xe s1) X.xe s
/-- the step ahead of the store is nothing for an iterator that keeps no tuple -/
theorem go_of {M : Model} {A : Around} {E : Value → Shared → Prop} {s : Shared} {tg : Expr} {it : Addr} {u : Value} {o : Obj} {n : String} {vs : Array Value} {Q : Unit → Shared → Prop} (ho : s.heap.get? it = some o) (hc : o.cls = .type n) (hd : o.data = .fields vs)
    (hn : ["enumerate", "zip", "dict_itemiterator", "dict_reverseitemiterator", "odict_iterator", "itertools.zip_longest", "itertools.pairwise"].contains n = false) (hQ : Q () s) : wpAny M A (letOwnedTupleGo tg (.ref it) u) Q E s := by
  unfold letOwnedTupleGo
  cases tg <;> first
    | exact wpAny_pure hQ
    | (cases u <;> first
        | exact wpAny_pure hQ
        | (refine wpAny_bind (wpAny_load ho ?_)
           rw [hc, hd]
           show wpAny M A (if (["enumerate", "zip", "dict_itemiterator", "dict_reverseitemiterator", "odict_iterator", "itertools.zip_longest", "itertools.pairwise"].contains n && vs[0]? == some (rawInt _)) = true then _ else _) Q E s
           rw [if_neg (by intro h; rw [hn, Bool.false_and] at h; cases h)]
           exact wpAny_pure hQ))
/-- the list at a, as it stands at each turn (a loop may append to it) -/
def Itl (K : PySem.W.Frag) (a : Addr) : It :=
  ⟨fun i H => ∃ xs x, SqL K H a xs ∧ xs[i]? = some x, fun i H x H' => H' = H ∧ ∀ xs, SqL K H a xs → xs[i]? = some x, fun i H => ∃ xs, SqL K H a xs ∧ xs.length ≤ i⟩
theorem turn_list {P : Program} {w : World} {K : PySem.W.Frag} {tg : Expr} (a it : Addr) : Turn P w K tg (Itl K a) [it] it (fun i h => h.IsListIter it a i) where
  mem := by simp
  obj := fun i h st b hb => by
    have e : b = it := by simpa using hb
    subst e
    obtain ⟨o, e, c, d⟩ := st
    exact ⟨o, e, fun v z => by rw [d] at z; cases z⟩
  keep := fun i h h' st k => st.at fun o e => k it (by simp) o e
  item := by
    intro X hP hw hK hc i pins s σ H E I hf st hg
    subst hP hw hK
    obtain ⟨xs, x, hq, hx⟩ := hg
    obtain ⟨its, rv, p, hz⟩ := I.list hq
    obtain ⟨u, hu, ru⟩ := rv.get hx
    obtain ⟨f0, f1, f2, f3, f4, f5⟩ := hf it (by simp)
    refine wpAny_pyNext_list_item st p.isList (x := u) (by simpa using hu) fun h' st' sb => ?_
    have I1 : Inv X pins σ H { s with heap := h' } := I.turned (t' := s.toks) (fun b o hb e => (sb.2 b hb).trans e) f0 f1 f3 f4 f5
    obtain ⟨o, e, c, d⟩ := id st'
    exact ⟨u, rfl, go_of (s := { s with heap := h' }) e c d (by decide) ⟨x, H, I1, ru, ⟨rfl, fun ys hy => by rw [I.list_inj hy hq]; exact hx⟩, st', fun b hb => (hf b hb).1⟩⟩
  done := by
    intro X hP hw hK hc i pins s σ H E I hf st hg
    subst hP hw hK
    obtain ⟨xs, hq, hx⟩ := hg
    obtain ⟨its, rv, p, hz⟩ := I.list hq
    obtain ⟨f0, f1, f2, f3, f4, f5⟩ := hf it (by simp)
    have hl := rv.length
    exact wpAny_pyNext_list_end (I.ok.hd hc) st p.isList (by simp; omega) fun h' eb => ⟨rfl, I.turned (t' := s.toks) (fun b o hb e => eb b o hb e) f0 f1 f3 f4 f5⟩
  self := fun _ _ _ _ _ st h => wpAny_pyIter_listiter st h
end L2
namespace L2
open PySem PySem.Spec PyProof.Rows
section
variable {X : Cx} {tg : Expr}
def iList (K : PySem.W.Frag) (tl : TE) : TI := fun σ H R => tl σ H fun x H1 => ∃ a, x = .ref a ∧ (∃ xs, SqL K H1 a xs) ∧ R (Itl K a) H1
theorem pi_list {l : Expr} {tl : TE} (hl : PE X l tl) : PI X tg l (iList X.K tl) := by
  intro pins s σ H R I h
  refine thn (hl pins s σ H _ I h) fun v s1 ⟨x, H1, I1, r1, q1⟩ => ?_
  obtain ⟨a, e, ⟨xs, hq⟩, q⟩ := q1
  subst e
  cases r1
  obtain ⟨its, rv, p, hz⟩ := I1.list hq
  refine wpAny_pyIter_list p.isList ?_
  refine ⟨s1.heap.objs.size, [s1.heap.objs.size], _, _, H1, rfl, I1.kept (t' := s1.toks) fun b o e => Heap.get?_push_of_some _ e, turn_list a _, ⟨_, Heap.get?_push_size _ rfl, rfl, rfl⟩, fun b hb => ?_, q⟩
  have e : b = s1.heap.objs.size := by simpa using hb
  subst e
  exact I1.fpOk (Nat.le_refl _) (I1.hok.fresh (Nat.le_refl _))
/-- W: the invariant by the turn and a measure; N: what the body is to reach -/
def tFor (wi : TI) (g : TG) (tb : TS) : TS := fun D σ H => wi σ H fun J H1 => ∃ W : Nat → Nat → St → Hp → Prop, (∃ m, W 0 m σ H1) ∧ ∀ i m σ H, W i m σ H →
  (J.stop i H ∧ D.nx σ H) ∨ (J.go i H ∧ ∃ N : St → Hp → Prop, (∀ σ' H', N σ' H' → ∃ m', m' < m ∧ W (i + 1) m' σ' H') ∧ ∀ x H', J.yld i H x H' → g x σ H' fun σ2 H2 => tb { D with nx := N, ct := N, bk := D.nx } σ2 H2)
/-- the records at fp as they stand -/
def pinsAt (fp : List Addr) (h : Heap) : List (Addr × Obj) := fp.filterMap fun b => (h.get? b).map fun o => (b, o)
theorem mem_pinsAt {fp : List Addr} {h : Heap} {b : Addr} {o : Obj} (hb : b ∈ fp) (e : h.get? b = some o) : (b, o) ∈ pinsAt fp h := List.mem_filterMap.mpr ⟨b, hb, by rw [e]; rfl⟩
theorem of_pinsAt {fp : List Addr} {h : Heap} {p : Addr × Obj} (hp : p ∈ pinsAt fp h) : p.1 ∈ fp ∧ h.get? p.1 = some p.2 := by
  obtain ⟨b, hb, e⟩ := List.mem_filterMap.mp hp
  cases q : h.get? b with
  | none => rw [q] at e; cases e
  | some o =>
    rw [q] at e
    have e' : (b, o) = p := Option.some.inj e
    subst e'
    exact ⟨hb, q⟩
theorem Inv.pinned {pins : List (Addr × Obj)} {σ : St} {H : Hp} {s : Shared} {fp : List Addr} (I : Inv X pins σ H s) (hf : ∀ b ∈ fp, FpOk X pins H b) (ho : ∀ b ∈ fp, ∃ o, s.heap.get? b = some o ∧ ∀ v, o.data ≠ .cell v) : Inv X (pins ++ pinsAt fp s.heap) σ H s :=
  I.pins_of fun p hp => (List.mem_append.mp hp).elim (fun z => I.pin p (List.mem_append_right _ z)) fun z => by
    obtain ⟨hb, e⟩ := of_pinsAt z
    obtain ⟨f0, f1, f2, _⟩ := hf p.1 hb
    obtain ⟨o, e', d⟩ := ho p.1 hb
    rw [e] at e'; cases e'
    exact ⟨e, f0, f1, f2, d⟩
theorem Inv.unpinned {pins pl : List (Addr × Obj)} {σ : St} {H : Hp} {s : Shared} (I : Inv X (pins ++ pl) σ H s) : Inv X pins σ H s := I.pins_of fun p hp => I.pin p (List.mem_append_right _ (List.mem_append_left _ hp))
theorem ps_for {iter : Expr} {body : List Stmt} {wi : TI} {g : TG} {tb : TS} {pos : Pos} (hp : PassesOwn (model X.prog X.w) X.A X.env X.xe) (hc : X.calm = true) (hi : PI X tg iter wi) (hg : PG X tg g) (hb : PSs X body tb)
    (hs : ∀ x, foldedSetIterable iter X.env x = pure x := by intro _; rfl) : PS X (.For tg iter body [] pos) (tFor wi g tb) := by
  intro pins s σ H D I h
  refine wpAny_For (thn (hi pins s σ H _ I h) fun v s1 h1 => thn h1 fun itv s2 h2 => ?_) hs
  obtain ⟨it, fp, tn, J, H2, e, I2, T, st2, f2, W, ⟨m0, w0⟩, turn⟩ := h2
  subst e
  -- what stays true of the iterator's objects through the loop
  have stat : ∀ {H' : Hp}, (∀ b ∈ fp, H' b = none) → ∀ b ∈ fp, FpOk X pins H' b := fun hn b hb => ⟨hn b hb, (f2 b hb).2⟩
  refine codeAny_forLoop_any (fun n s' => ∃ i σ' H', Inv X pins σ' H' s' ∧ tn i s'.heap ∧ (∀ b ∈ fp, H' b = none) ∧ W i n σ' H') ?_ m0 ⟨0, σ, H2, I2, st2, fun b hb => (f2 b hb).1, w0⟩
  rintro n s3 ⟨i, σ3, H3, I3, st3, fr3, w3⟩
  rcases turn i n σ3 H3 w3 with ⟨stop, qn⟩ | ⟨go, N, hN, step⟩
  · refine wpAny_passesOwn hp (thn (T.done X rfl rfl rfl hc i pins s3 σ3 H3 X.xe I3 (stat fr3) st3 stop) fun r s4 ⟨hr, I4⟩ => ?_)
    subst hr
    exact wpAny_execs_nil ⟨σ3, H3, I4, qn⟩
  · refine wpAny_passesOwn hp (thn (T.item X rfl rfl rfl hc i pins s3 σ3 H3 X.xe I3 (stat fr3) st3 go) fun r s4 ⟨u, hr, h4⟩ => ?_)
    subst hr
    refine wpAny_passesOwn hp (thn h4 fun _ s5 ⟨x, H5, I5, r5, y5, st5, fr5⟩ => ?_)
    have I5' := I5.pinned (stat fr5) (T.obj _ _ st5)
    refine wpAny_passesOwn hp (thn (hg _ s5 σ3 H5 x u _ I5' r5 (step x H5 y5)) fun _ s6 ⟨σ6, H6, I6, q6⟩ => ?_)
    refine wpAny_passesOwn hp (thn (hb _ s6 σ6 H6 _ I6 q6) fun f s7 q7 => ?_)
    have again : ∀ {σ7 : St} {H7 : Hp}, Inv X (pins ++ pinsAt fp s5.heap) σ7 H7 s7 → N σ7 H7 → ∃ m, m < n ∧ ∃ i σ' H', Inv X pins σ' H' s7 ∧ tn i s7.heap ∧ (∀ b ∈ fp, H' b = none) ∧ W i m σ' H' := fun {σ7 H7} I7 n7 => by
      obtain ⟨m', hm, w7⟩ := hN σ7 H7 n7
      refine ⟨m', hm, i + 1, σ7, H7, I7.unpinned, T.keep _ _ _ st5 fun b hb o e => (I7.pin (b, o) (List.mem_append_right _ (List.mem_append_right _ (mem_pinsAt hb e)))).1, fun b hb => ?_, w7⟩
      obtain ⟨o, e, d⟩ := T.obj _ _ st5 b hb
      exact (I7.pin (b, o) (List.mem_append_right _ (List.mem_append_right _ (mem_pinsAt hb e)))).2.1
    cases f with
    | next => obtain ⟨σ7, H7, I7, n7⟩ := q7; exact again I7 n7
    | cont => obtain ⟨σ7, H7, I7, n7⟩ := q7; exact again I7 n7
    | brk => obtain ⟨σ7, H7, I7, q7⟩ := q7; exact ⟨σ7, H7, I7.unpinned, q7⟩
    | ret v => obtain ⟨x7, σ7, H7, I7, r7, q7⟩ := q7; exact ⟨x7, σ7, H7, I7.unpinned, r7, q7⟩
end
/-- over a list that the body leaves as it is -/
theorem for_list {K : PySem.W.Frag} {a : Addr} {xs : List V} {g : TG} {tb : TS} {D : Ends} {σ : St} {H : Hp} (Pv : Nat → St → Hp → Prop) (h0 : Pv 0 σ H) (hl : ∀ i σ H, i ≤ xs.length → Pv i σ H → SqL K H a xs)
    (hs : ∀ i x σ H, xs[i]? = some x → Pv i σ H → g x σ H fun σ2 H2 => tb { D with nx := Pv (i + 1), ct := Pv (i + 1), bk := D.nx } σ2 H2) (hd : ∀ σ H, Pv xs.length σ H → D.nx σ H) :
    ∃ W : Nat → Nat → St → Hp → Prop, (∃ m, W 0 m σ H) ∧ ∀ i m σ H, W i m σ H →
      ((Itl K a).stop i H ∧ D.nx σ H) ∨ ((Itl K a).go i H ∧ ∃ N : St → Hp → Prop, (∀ σ' H', N σ' H' → ∃ m', m' < m ∧ W (i + 1) m' σ' H') ∧ ∀ x H', (Itl K a).yld i H x H' → g x σ H' fun σ2 H2 => tb { D with nx := N, ct := N, bk := D.nx } σ2 H2) := by
  refine ⟨fun i m σ H => m = xs.length - i ∧ i ≤ xs.length ∧ Pv i σ H, ⟨xs.length, by simp, Nat.zero_le _, h0⟩, ?_⟩
  rintro i m σ H ⟨rfl, hi, p⟩
  have q := hl i σ H hi p
  by_cases hlt : i < xs.length
  · refine .inr ⟨⟨xs, xs[i], q, by simp [hlt]⟩, Pv (i + 1), fun σ' H' p' => ⟨xs.length - (i + 1), by omega, rfl, hlt, p'⟩, fun x H' y => ?_⟩
    obtain ⟨e, y⟩ := y
    subst e
    exact hs i x σ _ (y xs q) p
  · have e : i = xs.length := by omega
    subst e
    exact .inl ⟨⟨xs, q, Nat.le_refl _⟩, hd σ H p⟩
end L2
namespace L2
open PySem PySem.Spec PyProof.Rows
abbrev R2 := V → V → Hp → VK → Prop
/-- a two-place operation on values: f is binaryOp op, inplaceOp op or compareOp op -/
def OpR (X : Cx) (f : Value → Value → Sem Value) (r : R2) : Prop :=
  ∀ (pins : List (Addr × Obj)) (s : Shared) (σ : St) (H : Hp) (x y : V) (v u : Value) (Q : VK), Inv X pins σ H s → RelV x v → RelV y u → r x y H Q →
    wpAny (model X.prog X.w) X.A (f v u) (EP X pins σ Q) X.xe s
/-- a one-place operation -/
def UnR (X : Cx) (f : Value → Sem Value) (r : V → Hp → VK → Prop) : Prop :=
  ∀ (pins : List (Addr × Obj)) (s : Shared) (σ : St) (H : Hp) (x : V) (v : Value) (Q : VK), Inv X pins σ H s → RelV x v → r x H Q →
    wpAny (model X.prog X.w) X.A (f v) (EP X pins σ Q) X.xe s
/-- a call of a value that is known (a builtin, a type) with values -/
def CallR (X : Cx) (f : Value) (r : List V → Hp → VK → Prop) : Prop :=
  ∀ (pins : List (Addr × Obj)) (s : Shared) (σ : St) (H : Hp) (xs : List V) (us : List Value) (Q : VK), Inv X pins σ H s → Vals xs us → r xs H Q →
    wpAny (model X.prog X.w) X.A (call f us) (EP X pins σ Q) X.xe s
def tOp (r : R2) (ta tb : TE) : TE := fun σ H Q => ta σ H fun x H1 => tb σ H1 fun y H2 => r x y H2 Q
def tUn (r : V → Hp → VK → Prop) (ta : TE) : TE := fun σ H Q => ta σ H fun x H1 => r x H1 Q
/-- ints in, under C, and a value out -/
def rI (C : Int → Int → Prop) (g : Int → Int → V) : R2 := fun x y H Q => ∃ i j, x = .int i ∧ y = .int j ∧ C i j ∧ Q (g i j) H
def rI0 (g : Int → Int → V) : R2 := fun x y H Q => ∃ i j, x = .int i ∧ y = .int j ∧ Q (g i j) H
def rU (g : Int → V) : V → Hp → VK → Prop := fun x H Q => ∃ i, x = .int i ∧ Q (g i) H
section
variable {X : Cx} {a b c : Expr} {ta tb tc : TE} {pos : Pos}
theorem binT (ha : PE X a ta) (hb : PE X b tb) {pins : List (Addr × Obj)} {s : Shared} {σ : St} {H : Hp} {R : V → V → Hp → Prop} (I : Inv X pins σ H s)
    (h : ta σ H fun x H1 => tb σ H1 fun y H2 => R x y H2) {Q : Value → Shared → Prop} {f : Value → Value → Sem Value}
    (hf : ∀ v u s2 x y H2, Inv X pins σ H2 s2 → RelV x v → RelV y u → R x y H2 → wpAny (model X.prog X.w) X.A (f v u) Q X.xe s2) :
    wpAny (model X.prog X.w) X.A (eval a X.env) (fun v s₁ => wpAny (model X.prog X.w) X.A (eval b X.env) (fun u s₂ => wpAny (model X.prog X.w) X.A (f v u) Q X.xe s₂) X.xe s₁) X.xe s := by
  refine thn (ha pins s σ H _ I h) fun v s1 ⟨x, H1, I1, r1, q1⟩ => ?_
  refine thn (hb pins s1 σ H1 _ I1 q1) fun u s2 ⟨y, H2, I2, r2, q2⟩ => ?_
  exact hf v u s2 x y H2 I2 r1 r2 q2
theorem pe_op {op : Operator} {r : R2} (ho : OpR X (binaryOp op) r) (ha : PE X a ta) (hb : PE X b tb) : PE X (.BinOp a op b pos) (tOp r ta tb) := by
  intro pins s σ H Q I h
  exact wpAny_BinOp (binT ha hb I h fun v u s2 x y H2 I2 rx ry q => ho pins s2 σ H2 x y v u Q I2 rx ry q)
theorem pe_un {op : UnaryOp} {r : V → Hp → VK → Prop} (ho : UnR X (unaryOp op) r) (ha : PE X a ta) : PE X (.UnaryOp op a pos) (tUn r ta) := by
  intro pins s σ H Q I h
  exact UnaryOp_ (thn (ha pins s σ H _ I h) fun v s1 ⟨x, H1, I1, r1, q1⟩ => ho pins s1 σ H1 x v Q I1 r1 q1)
theorem opI {f : Value → Value → Sem Value} {C : Int → Int → Prop} {g : Int → Int → Int}
    (rule : ∀ (i j : Int) (t u : Tok) (s : Shared) (Q : Value → Shared → Prop) (E : Value → Shared → Prop), C i j → Q (.int (g i j) s.toks) { s with toks := s.toks + 1 } → wpAny (model X.prog X.w) X.A (f (.int i t) (.int j u)) Q E s) :
    OpR X f (rI C fun i j => .int (g i j)) := by
  intro pins s σ H x y v u Q I rx ry h
  obtain ⟨i, j, rfl, rfl, hc, q⟩ := h
  obtain ⟨t, rfl⟩ := rx
  obtain ⟨t', rfl⟩ := ry
  exact rule i j t t' s _ _ hc ⟨.int (g i j), H, I.tok _, ⟨_, rfl⟩, q⟩
theorem opI0 {f : Value → Value → Sem Value} {g : Int → Int → Int}
    (rule : ∀ (i j : Int) (t u : Tok) (s : Shared) (Q : Value → Shared → Prop) (E : Value → Shared → Prop), Q (.int (g i j) s.toks) { s with toks := s.toks + 1 } → wpAny (model X.prog X.w) X.A (f (.int i t) (.int j u)) Q E s) :
    OpR X f (rI0 fun i j => .int (g i j)) := by
  intro pins s σ H x y v u Q I rx ry h
  obtain ⟨i, j, rfl, rfl, q⟩ := h
  obtain ⟨t, rfl⟩ := rx
  obtain ⟨t', rfl⟩ := ry
  exact rule i j t t' s _ _ ⟨.int (g i j), H, I.tok _, ⟨_, rfl⟩, q⟩
theorem opB0 {f : Value → Value → Sem Value} {g : Int → Int → Bool}
    (rule : ∀ (i j : Int) (t u : Tok) (s : Shared) (Q : Value → Shared → Prop) (E : Value → Shared → Prop), Q (.bool (g i j)) s → wpAny (model X.prog X.w) X.A (f (.int i t) (.int j u)) Q E s) :
    OpR X f (rI0 fun i j => .bl (g i j)) := by
  intro pins s σ H x y v u Q I rx ry h
  obtain ⟨i, j, rfl, rfl, q⟩ := h
  obtain ⟨t, rfl⟩ := rx
  obtain ⟨t', rfl⟩ := ry
  exact rule i j t t' s _ _ ⟨.bl (g i j), H, I, rfl, q⟩
def CDiv (i j : Int) : Prop := 0 < j ∧ j < 1073741824
def CMul (i j : Int) : Prop := (-(2 ^ 64) < i ∧ i < 2 ^ 64) ∨ (-(2 ^ 64) < j ∧ j < 2 ^ 64)
theorem CMul.ok {i j : Int} (h : CMul i j) : IntMulOk i j := by
  rcases h with ⟨h1, h2⟩ | ⟨h1, h2⟩
  · exact .of_left (intBits_le_64 h1 h2)
  · exact .of_right (intBits_le_64 h1 h2)
theorem op_add : OpR X (binaryOp .Add) (rI0 fun i j => .int (i + j)) := opI0 fun _ _ _ _ _ _ _ q => add_int q
theorem op_sub : OpR X (binaryOp .Sub) (rI0 fun i j => .int (i - j)) := opI0 fun _ _ _ _ _ _ _ q => sub_int q
theorem op_mul : OpR X (binaryOp .Mult) (rI CMul fun i j => .int (i * j)) := opI fun _ _ _ _ _ _ _ hc q => mul_int q hc.ok
/-- // by a positive divisor -/
theorem op_fdiv : OpR X (binaryOp .FloorDiv) (rI CDiv fun i j => .int (i / j)) := opI fun i j _ _ _ _ _ hc q => by
  have h1 : (0 : Int) < j := hc.1
  have h2 : j < 1073741824 := hc.2
  exact floordiv_int (by omega) (by rw [Int.fdiv_eq_ediv_of_nonneg i (by omega)]; exact q) (.inl (PyProof.noPylong_small (by omega)))
theorem unI {f : Value → Sem Value} {g : Int → Int}
    (rule : ∀ (i : Int) (t : Tok) (s : Shared) (Q : Value → Shared → Prop) (E : Value → Shared → Prop), Q (.int (g i) s.toks) { s with toks := s.toks + 1 } → wpAny (model X.prog X.w) X.A (f (.int i t)) Q E s) :
    UnR X f (rU fun i => .int (g i)) := by
  intro pins s σ H x v Q I rx h
  obtain ⟨i, rfl, q⟩ := h
  obtain ⟨t, rfl⟩ := rx
  exact rule i t s _ _ ⟨.int (g i), H, I.tok _, ⟨_, rfl⟩, q⟩
theorem un_neg : UnR X (unaryOp .USub) (rU fun i => .int (-i)) := unI fun _ _ _ _ _ q => neg_int q
end
/-- the scalars that == tells apart as data does -/
def scal : V → V → Bool
  | .non, .non => true | .non, .int _ => true | .int _, .non => true | .non, .bl _ => true | .bl _, .non => true | .non, .str _ => true | .str _, .non => true
  | .int _, .int _ => true | .bl _, .bl _ => true | .str _, .str _ => true | .byt _, .byt _ => true
  | .int _, .str _ => true | .str _, .int _ => true | .bl _, .str _ => true | .str _, .bl _ => true
  | _, _ => false
def rEq : R2 := fun x y H Q => scal x y = true ∧ Q (.bl (decide (x = y))) H
def rNe : R2 := fun x y H Q => scal x y = true ∧ Q (.bl (!decide (x = y))) H
theorem dec_int {i j : Int} : decide (V.int i = V.int j) = (i == j) := by
  rw [Bool.eq_iff_iff]
  simp
theorem dec_bl {i j : Bool} : decide (V.bl i = V.bl j) = (i == j) := by
  rw [Bool.eq_iff_iff]
  simp
theorem dec_str {i j : Str} : decide (V.str i = V.str j) = (i == j) := by
  rw [Bool.eq_iff_iff]
  simp
theorem dec_byt {i j : Array UInt8} : decide (V.byt i = V.byt j) = (i.toList == j.toList) := by
  rw [Bool.eq_iff_iff]
  cases i
  cases j
  simp
section
variable {X : Cx} {a b c : Expr} {ta tb tc : TE} {pos : Pos}
theorem fin_bl {pins : List (Addr × Obj)} {σ : St} {H : Hp} {s : Shared} {Q : VK} {k k' : Bool} (I : Inv X pins σ H s) (q : Q (.bl k) H) (e : k = k') : EP X pins σ Q (.bool k') s := by
  subst e
  exact ⟨.bl k, H, I, rfl, q⟩
theorem op_eq : OpR X (compareOp .Eq) rEq := by
  intro pins s σ H x y v u Q I rx ry h
  obtain ⟨hs, q⟩ := h
  cases x with
  | non =>
    cases rx
    cases y with
    | non => cases ry; exact PySem.EqNone.eq_none_none (fin_bl I q (by simp))
    | bl j => cases ry; exact PySem.EqNone.eq_none_bool (fin_bl I q (by simp))
    | int j => obtain ⟨t', rfl⟩ := ry; exact PySem.EqNone.eq_none_int (fin_bl I q (by simp))
    | str j => obtain ⟨t', rfl⟩ := ry; exact PySem.EqNone.eq_none_str (fin_bl I q (by simp))
    | _ => exact absurd (show false = true from hs) Bool.false_ne_true
  | bl i =>
    cases rx
    cases y with
    | non => cases ry; exact PySem.EqNone.eq_bool_none (fin_bl I q (by simp))
    | bl j => cases ry; exact eq_bool (fin_bl I q dec_bl)
    | str j => obtain ⟨t', rfl⟩ := ry; exact PySem.EqMixed.eq_bool_str (fin_bl I q (by simp))
    | _ => exact absurd (show false = true from hs) Bool.false_ne_true
  | int i =>
    obtain ⟨t, rfl⟩ := rx
    cases y with
    | non => cases ry; exact PySem.EqNone.eq_int_none (fin_bl I q (by simp))
    | int j => obtain ⟨t', rfl⟩ := ry; exact eq_int (fin_bl I q dec_int)
    | str j => obtain ⟨t', rfl⟩ := ry; exact PySem.EqMixed.eq_int_str (fin_bl I q (by simp))
    | _ => exact absurd (show false = true from hs) Bool.false_ne_true
  | str i =>
    obtain ⟨t, rfl⟩ := rx
    cases y with
    | non => cases ry; exact PySem.EqNone.eq_str_none (fin_bl I q (by simp))
    | bl j => cases ry; exact PySem.EqMixed.eq_str_bool (fin_bl I q (by simp))
    | int j => obtain ⟨t', rfl⟩ := ry; exact PySem.EqMixed.eq_str_int (fin_bl I q (by simp))
    | str j => obtain ⟨t', rfl⟩ := ry; exact eq_str (fin_bl I q dec_str)
    | _ => exact absurd (show false = true from hs) Bool.false_ne_true
  | byt i =>
    obtain ⟨t, rfl⟩ := rx
    cases y with
    | byt j => obtain ⟨t', rfl⟩ := ry; exact PySem.W.eq_bytes (fin_bl I q dec_byt)
    | _ => exact absurd (show false = true from hs) Bool.false_ne_true
  | _ => cases y <;> exact absurd (show false = true from hs) Bool.false_ne_true
theorem op_ne : OpR X (compareOp .NotEq) rNe := by
  intro pins s σ H x y v u Q I rx ry h
  obtain ⟨hs, q⟩ := h
  cases x with
  | non =>
    cases rx
    cases y with
    | non => cases ry; exact PySem.EqNone.ne_none_none (fin_bl I q (by simp))
    | bl j => cases ry; exact PySem.EqNone.ne_none_bool (fin_bl I q (by simp))
    | int j => obtain ⟨t', rfl⟩ := ry; exact PySem.EqNone.ne_none_int (fin_bl I q (by simp))
    | str j => obtain ⟨t', rfl⟩ := ry; exact PySem.EqNone.ne_none_str (fin_bl I q (by simp))
    | _ => exact absurd (show false = true from hs) Bool.false_ne_true
  | bl i =>
    cases rx
    cases y with
    | non => cases ry; exact PySem.EqNone.ne_bool_none (fin_bl I q (by simp))
    | bl j => cases ry; exact ne_bool (fin_bl I q (congrArg not dec_bl))
    | str j => obtain ⟨t', rfl⟩ := ry; exact PySem.EqMixed.ne_bool_str (fin_bl I q (by simp))
    | _ => exact absurd (show false = true from hs) Bool.false_ne_true
  | int i =>
    obtain ⟨t, rfl⟩ := rx
    cases y with
    | non => cases ry; exact PySem.EqNone.ne_int_none (fin_bl I q (by simp))
    | int j => obtain ⟨t', rfl⟩ := ry; exact ne_int (fin_bl I q (congrArg not dec_int))
    | str j => obtain ⟨t', rfl⟩ := ry; exact PySem.EqMixed.ne_int_str (fin_bl I q (by simp))
    | _ => exact absurd (show false = true from hs) Bool.false_ne_true
  | str i =>
    obtain ⟨t, rfl⟩ := rx
    cases y with
    | non => cases ry; exact PySem.EqNone.ne_str_none (fin_bl I q (by simp))
    | bl j => cases ry; exact PySem.EqMixed.ne_str_bool (fin_bl I q (by simp))
    | int j => obtain ⟨t', rfl⟩ := ry; exact PySem.EqMixed.ne_str_int (fin_bl I q (by simp))
    | str j => obtain ⟨t', rfl⟩ := ry; exact ne_str (fin_bl I q (congrArg not dec_str))
    | _ => exact absurd (show false = true from hs) Bool.false_ne_true
  | byt i =>
    obtain ⟨t, rfl⟩ := rx
    cases y with
    | byt j => obtain ⟨t', rfl⟩ := ry; exact PySem.W.ne_bytes (fin_bl I q (congrArg not dec_byt))
    | _ => exact absurd (show false = true from hs) Bool.false_ne_true
  | _ => cases y <;> exact absurd (show false = true from hs) Bool.false_ne_true
theorem op_lt : OpR X (compareOp .Lt) (rI0 fun i j => .bl (decide (i < j))) := opB0 fun _ _ _ _ _ _ _ q => lt_int q
theorem op_le : OpR X (compareOp .LtE) (rI0 fun i j => .bl (decide (i ≤ j))) := opB0 fun _ _ _ _ _ _ _ q => le_int q
theorem op_gt : OpR X (compareOp .Gt) (rI0 fun i j => .bl (decide (j < i))) := opB0 fun _ _ _ _ _ _ _ q => gt_int q
/-- two rules for one operation: by cases -/
theorem OpR.or {f : Value → Value → Sem Value} {r r' : R2} (h : OpR X f r) (h' : OpR X f r') : OpR X f (fun x y H Q => r x y H Q ∨ r' x y H Q) := by
  intro pins s σ H x y v u Q I rx ry q
  rcases q with q | q
  · exact h pins s σ H x y v u Q I rx ry q
  · exact h' pins s σ H x y v u Q I rx ry q
theorem nomark (b : Expr) {op : CmpOp} (h : op ≠ .In := by decide) (h2 : op ≠ .NotIn := by decide) : behindInMarks op b = false := by
  have e1 : (op == CmpOp.In) = false := by cases op <;> first | rfl | exact absurd rfl h
  have e2 : (op == CmpOp.NotIn) = false := by cases op <;> first | rfl | exact absurd rfl h2
  cases b <;> simp [behindInMarks, e1, e2]
/-- a comparison as a value; hm: nomark b, or (for in, not in) by with_unfolding_all rfl -/
theorem pe_cmpR {op : CmpOp} {r : R2} (ho : OpR X (compareOp op) r) (ha : PE X a ta) (hb : PE X b tb) (hm : behindInMarks op b = false) : PE X (.Compare a [op] [b] pos) (tOp r ta tb) := by
  intro pins s σ H Q I h
  exact wpAny_Compare1 (binT ha hb I h fun v u s2 x y H2 I2 rx ry q => ho pins s2 σ H2 x y v u Q I2 rx ry q) hm
/-- a reading of a value as a test -/
def tTest (t : TE) : TT := fun σ H Q => t σ H fun x H' => ∃ k, x = .bl k ∧ Q k H'
theorem pt_cmpR {op : CmpOp} {r : R2} (ho : OpR X (compareOp op) r) (ha : PE X a ta) (hb : PE X b tb) (hm : behindInMarks op b = false) : PT X (.Compare a [op] [b] pos) (tTest (tOp r ta tb)) := by
  intro pins s σ H Q I h
  refine wpAny_isTrue_Compare1 (thn (ha pins s σ H _ I h) fun v s1 ⟨x, H1, I1, r1, q1⟩ => thn (hb pins s1 σ H1 _ I1 q1) fun u s2 ⟨y, H2, I2, r2, q2⟩ =>
    thn (ho pins s2 σ H2 x y v u _ I2 r1 r2 q2) fun c s3 ⟨z, H3, I3, r3, k, e, q3⟩ => ?_) hm
  subst e
  cases r3
  exact wpAny_truthy_bool ⟨H3, I3, q3⟩
/-- a op1 b op2 c -/
def tChain (r r' : R2) (ta tb tc : TE) : TE := fun σ H Q => ta σ H fun x H1 => tb σ H1 fun y H2 => r x y H2 fun z H3 => ∃ k, z = .bl k ∧
  (if k = true then tc σ H3 fun w' H4 => r' y w' H4 Q else Q (.bl false) H3)
theorem pt_chain {op op' : CmpOp} {r r' : R2} (ho : OpR X (compareOp op) r) (ho' : OpR X (compareOp op') r') (ha : PE X a ta) (hb : PE X b tb) (hc : PE X c tc)
    (hm : lastMarks [op, op'] [b, c] = false := by with_unfolding_all rfl) : PT X (.Compare a [op, op'] [b, c] pos) (tTest (tChain r r' ta tb tc)) := by
  intro pins s σ H Q I h
  refine isTrue_chain (thn (ha pins s σ H _ I h) fun v s1 ⟨x, H1, I1, r1, q1⟩ => test_link (thn (hb pins s1 σ H1 _ I1 q1) fun u s2 ⟨y, H2, I2, r2, q2⟩ =>
    thn (ho pins s2 σ H2 x y v u _ I2 r1 r2 q2) fun d s3 ⟨z, H3, I3, r3, k, e, q3⟩ => ?_)) hm
  subst e
  cases r3
  refine wpAny_truthy_bool ?_
  cases k with
  | false =>
    obtain ⟨k', e', q'⟩ := q3
    cases e'
    exact ite_ff ⟨H3, I3, q'⟩
  | true =>
    refine ite_tt (test_last (thn (hc pins s3 σ H3 _ I3 q3) fun w' s4 ⟨z', H4, I4, r4, q4⟩ => thn (ho' pins s4 σ H4 y z' u w' _ I4 r2 r4 q4) fun d' s5 ⟨z2, H5, I5, r5, k2, e2, q5⟩ => ?_))
    subst e2
    cases r5
    exact wpAny_truthy_bool ⟨H5, I5, q5⟩
theorem line63 : (sizeLine : Nat) < 2 ^ 63 := by rw [sizeLine_eq]; decide
theorem vals1 {x : V} {us : List Value} (r : Vals [x] us) : ∃ u, us = [u] ∧ RelV x u := by
  cases r with
  | cons r1 r2 => cases r2; exact ⟨_, rfl, r1⟩
end
end L2
namespace L2
open PySem PySem.Spec PyProof.Rows
structure ObjM (h : Heap) (x dx C : Addr) (mA : Str → Option Value) : Prop where
  obj : h.get? x = some (PySem.W.instObj C dx)
  ns : h.Ns1 dx mA
  ne : dx ≠ x
theorem lookIn_ns {h : Heap} {dx : Addr} {mA : Str → Option Value} (n : h.Ns1 dx mA) : ∃ od, h.get? dx = some od ∧ ∀ name, PySem.W.lookIn name od = some (mA name) := by
  obtain ⟨o, es, ep, ho, hd, hk, _, hm⟩ := n
  refine ⟨o, ho, fun name => ?_⟩
  have e := hm name
  unfold nsFind findBy at e
  rw [← Array.find?_toList] at e
  unfold PySem.W.lookIn
  rw [hd]
  dsimp only
  split
  · rename_i y q
    rw [q] at e
    exact congrArg some e
  · rename_i q
    rw [q] at e
    have a : es.toList.any (·.refKey) = false := by
      rw [List.any_eq_false]
      intro y hy
      obtain ⟨z, t, hkey⟩ := hk y (Array.mem_toList_iff.mp hy)
      simp [DictEntry.refKey, hkey]
    have a' : ¬ es.toList.any (·.refKey) = true := by rw [a]; exact Bool.false_ne_true
    rw [if_neg a']
    exact congrArg some e
theorem ObjM.look {h : Heap} {x dx C : Addr} {mA : Str → Option Value} (I : ObjM h x dx C mA) : ∃ od, PySem.W.InstAt h x (PySem.W.instObj C dx) C (some od) ∧ ∀ name, PySem.W.lookIn name od = some (mA name) :=
  let ⟨od, ho, hl⟩ := lookIn_ns I.ns
  ⟨od, ⟨I.obj, rfl, rfl, ho⟩, hl⟩
section
variable {prog : Program} {w : World} {A : Around} {E : Value → Shared → Prop} {s : Shared} {K : PySem.W.Frag} {x dx C f : Addr} {mA : Str → Option Value} {name : Str} {v : Value}
theorem get_map {expr : Bool} {Q : Value → Shared → Prop} (X : K.In s.heap) (I : ObjM s.heap x dx C mA) (hg : PySem.W.plainGet K C name = true) (hh : PySem.W.hasDictIn K C = true)
    (ha : PySem.W.findIn K (.ref C) name = some none) (hv : mA name = some v) (hv' : PySem.W.handedIn v = true) (h : Q v { s with toks := s.toks + 1 }) :
    wpAny (model prog w) A (getAttr (.ref x) name expr) Q E s := by
  obtain ⟨od, J, hl⟩ := I.look
  exact PySem.W.get_value X J (PySem.W.plainGet_of hg).1 (PySem.W.findObj_own hh ha rfl (by rw [hl, hv])) hv' h
theorem get_meth {pl : Sem Bool} {Q : Value × List Value → Shared → Prop} (X : K.In s.heap) (I : ObjM s.heap x dx C mA) (hg : PySem.W.plainGet K C name = true)
    (hf : PySem.W.findIn K (.ref C) name = some (some (.ref f))) (ht : PySem.W.isFn K (.ref f) = true) (hv : mA name = none) (h : Q (.ref f, [.ref x]) s) :
    wpAny (model prog w) A (getMethod (.ref x) name pl) Q E s := by
  obtain ⟨od, J, hl⟩ := I.look
  exact PySem.W.method_fn X J (PySem.W.plainGet_of hg).1 (PySem.W.plainGet_of hg).2 hf (beq_iff_eq.mp ht) (by show (PySem.W.lookIn name od).map (·.isSome) = some false; rw [hl, hv]; rfl) h
theorem set_map {ns : List Str} {Q : Unit → Shared → Prop} (X : K.In s.heap) (I : ObjM s.heap x dx C mA)
    (hs : PySem.W.findIn K (.ref C) "__setattr__" = some (some (.builtin "object.__setattr__"))) (hp : PySem.W.plainOver K C = true) (ht : PySem.W.takerIn K C name = some none) (hh : PySem.W.hasDictIn K C = true)
    (hw : PySem.Within mA ns) (hsz : ns.length ≤ sizeLine)
    (h : ∀ h', ObjM h' x dx C (fun y => if y = name then some v else mA y) → Heap.SameBut dx s.heap h' → Q () { s with heap := h', toks := s.toks + 2 }) :
    wpAny (model prog w) A (setAttr (.ref x) name v) Q E s := by
  obtain ⟨od, J, hl⟩ := I.look
  refine PySem.W.set_plain X J hs (PySem.W.osa_open (s := { s with toks := s.toks + 1 }) (r := none) X J hp ht fun b => ?_)
  obtain ⟨cd, hc, hd'⟩ := PySem.W.any_some hh
  have hx : s.heap.get? x = some ⟨.ref C, some dx, .plain, #[]⟩ := I.obj
  refine wpAny_bind (wpAny_pure (wpAny_bind (wpAny_bind (wpAny_loadPart hx (wpAny_bind (PySem.W.Looks.here (s := { s with toks := s.toks + 1 }) (PySem.W.looks_clsIn X hc) ?_))))))
  rw [hd']
  refine wpAny_pure (a := some dx) (wpAny_bind (wpAny_pure (wpAny_bind ?_)))
  refine wpAny_nsSet1 (s := { s with toks := s.toks + 1 }) I.ns fun h' hn2 hs2 => ?_
  obtain ⟨oD, esD, epD, hoD, hdD, hcD⟩ := hn2.count (PySem.Within.cons name v hw)
  refine wpAny_bind (wpAny_lookBehind hoD (by rw [hdD]; exact pastItsLine_dict (Nat.le_trans hcD (by rw [List.length_cons]; omega))) ?_)
  exact wpAny_pure (h _ ⟨(hs2.2 _ (Ne.symm I.ne)).trans I.obj, hn2, I.ne⟩ hs2)
/-- C(..): the dict at the heap's end, the instance behind it; then its __init__ -/
theorem make_map {R : Result → Shared → Prop} {vs : List Value} {kw : List (Str × Value)} (X : K.In s.heap) (hm : PySem.W.makesIn K C = true)
    (hi : PySem.W.findIn K (.ref C) "__init__" = some (some (.ref f))) (hf : PySem.W.typeIn K (.ref f) = some (.type "function"))
    (h : codeAny (model prog w) (A.under (.builtin "type.__call__" ⟨.ref C :: vs, kw⟩)) (.call (.ref f) ⟨.ref (s.heap.objs.size + 1) :: vs, kw⟩) (PySem.W.InitBack (s.heap.objs.size + 1) R)
      { s with heap := (s.heap.push PySem.W.emptyDict).push (PySem.W.instObj C s.heap.objs.size) }) :
    codeAny (model prog w) A (.call (.ref C) ⟨vs, kw⟩) R s := by
  obtain ⟨hh, g, d, t, os⟩ := s
  exact PySem.W.make_core (PySem.W.makes_of X hm) (PySem.W.looks_findIn X hi) (fun self => PySem.W.bind_fn X self hf) (.inl rfl) h
end
def putF (f : Str) (v : V) : List (Str × V) → List (Str × V)
  | [] => [(f, v)]
  | (g, x) :: r => if g = f then (g, v) :: r else (g, x) :: putF f v r
theorem lookup_putF (f g : Str) (v : V) : ∀ fs : List (Str × V), (putF f v fs).lookup g = if g = f then some v else fs.lookup g
  | [] => by
    show List.lookup g [(f, v)] = _
    by_cases h : g = f
    · have hb : (g == f) = true := beq_iff_eq.mpr h
      simp only [List.lookup, hb, if_pos h]
    · have hb : (g == f) = false := beq_eq_false_iff_ne.mpr h
      simp only [List.lookup, hb, if_neg h]
  | (k, x) :: r => by
    have ih := lookup_putF f g v r
    rw [show putF f v ((k, x) :: r) = (if k = f then (k, v) :: r else (k, x) :: putF f v r) from rfl]
    by_cases hk : k = f
    · rw [if_pos hk]
      by_cases h : g = k
      · have hb : (g == k) = true := beq_iff_eq.mpr h
        simp only [List.lookup, hb, if_pos (h.trans hk)]
      · have hb : (g == k) = false := beq_eq_false_iff_ne.mpr h
        simp only [List.lookup, hb, if_neg (fun e : g = f => h (e.trans hk.symm))]
    · rw [if_neg hk]
      by_cases h : g = k
      · have hb : (g == k) = true := beq_iff_eq.mpr h
        simp only [List.lookup, hb, if_neg (fun e : g = f => hk (h.symm.trans e))]
      · have hb : (g == k) = false := beq_eq_false_iff_ne.mpr h
        simp only [List.lookup, hb]
        exact ih
theorem keys_putF (f : Str) (v : V) : ∀ fs : List (Str × V), f ∈ (putF f v fs).map (·.1) ∧ ∀ g, g ∈ fs.map (·.1) → g ∈ (putF f v fs).map (·.1)
  | [] => ⟨by simp [putF], fun g h => by simp at h⟩
  | (k, x) :: r => by
    obtain ⟨i1, i2⟩ := keys_putF f v r
    rw [show putF f v ((k, x) :: r) = (if k = f then (k, v) :: r else (k, x) :: putF f v r) from rfl]
    by_cases hk : k = f
    · rw [if_pos hk]
      subst hk
      exact ⟨by simp, fun g h => by simpa using h⟩
    · rw [if_neg hk]
      refine ⟨?_, fun g h => ?_⟩
      · rw [List.map_cons]
        exact List.mem_cons_of_mem _ i1
      · rw [List.map_cons] at h ⊢
        rcases List.mem_cons.mp h with e | e
        · exact List.mem_cons.mpr (.inl e)
        · exact List.mem_cons_of_mem _ (i2 g e)
theorem length_putF (f : Str) (v : V) : ∀ fs : List (Str × V), (putF f v fs).length ≤ fs.length + 1
  | [] => by simp [putF]
  | (k, x) :: r => by
    have ih := length_putF f v r
    rw [show putF f v ((k, x) :: r) = (if k = f then (k, v) :: r else (k, x) :: putF f v r) from rfl]
    by_cases hk : k = f
    · rw [if_pos hk, List.length_cons, List.length_cons]; omega
    · rw [if_neg hk, List.length_cons, List.length_cons]; omega
theorem RelO.some_of {v : V} {o : Option Value} (r : RelO (some v) o) : ∃ u, o = some u ∧ RelV v u := by
  cases o with
  | none => exact (show False from r).elim
  | some u => exact ⟨u, rfl, r⟩
theorem RelO.none_of {o : Option Value} (r : RelO none o) : o = none := by
  cases o with
  | none => rfl
  | some u => exact (show False from r).elim
theorem handed_of {v : V} {u : Value} (r : RelV v u) : PySem.W.handedIn u = true := by
  cases v with
  | non => cases (show u = Value.none from r); rfl
  | bl b => cases (show u = Value.bool b from r); rfl
  | int i => obtain ⟨t, e⟩ := (show ∃ t, u = Value.int i t from r); cases e; rfl
  | str x => obtain ⟨t, e⟩ := (show ∃ t, u = Value.str x t from r); cases e; rfl
  | byt b => obtain ⟨t, e⟩ := (show ∃ t, u = Value.bytes b t from r); cases e; rfl
  | flt b => obtain ⟨t, e⟩ := (show ∃ t, u = Value.float b t from r); cases e; rfl
  | ref a => cases (show u = Value.ref a from r); rfl
  | ty n => cases (show u = Value.type n from r); rfl
section
variable {P : Program} {w : World} {H H' : Hp} {h h' : Heap} {a C dx : Addr} {fs fs' : List (Str × V)}
theorem ins_get (hok : HOk P w H h) (e : H a = some (.ins C dx fs)) : ∃ mA, ObjM h a dx C mA ∧ (∀ f, RelO (fs.lookup f) (mA f)) ∧ PySem.Within mA (fs.map (·.1)) ∧ fs.length ≤ 1000 ∧ H dx = some (.own a) := by
  obtain ⟨d, z, ne, ob, mA, n, r, q⟩ := (show ObjOk P w H h a (.ins C dx fs) from hok a _ e)
  exact ⟨mA, ⟨ob, n, ne⟩, r, q, z, d⟩
end
structure Cls (K : PySem.W.Frag) (C : Addr) : Prop where
  pg : PySem.W.plainGet K C Str.empty = true
  hd : PySem.W.hasDictIn K C = true
  po : PySem.W.plainOver K C = true
  sa : PySem.W.findIn K (.ref C) "__setattr__" = some (some (.builtin "object.__setattr__"))
theorem Cls.get {K : PySem.W.Frag} {C : Addr} (c : Cls K C) (f : Str) : PySem.W.plainGet K C f = true := c.pg
/-- no class of it has the name -/
def NoAttr (K : PySem.W.Frag) (C : Addr) (f : Str) : Prop := PySem.W.findIn K (.ref C) f = some none
theorem NoAttr.taker {K : PySem.W.Frag} {C : Addr} {f : Str} (n : NoAttr K C f) : PySem.W.takerIn K C f = some none := by
  unfold PySem.W.takerIn
  rw [show PySem.W.findIn K (.ref C) f = some none from n]
  rfl
/-- a method: a plain def of the class or of one above it -/
structure Meth (K : PySem.W.Frag) (C : Addr) (m : Str) (f : Addr) : Prop where
  at_ : PySem.W.findIn K (.ref C) m = some (some (.ref f))
  fn : PySem.W.isFn K (.ref f) = true
  kp : PySem.W.keepIn K (.ref f) = true
section
variable {X : Cx} {pins : List (Addr × Obj)} {σ : St} {H : Hp} {s : Shared} {a C dx : Addr} {fs : List (Str × V)} {f : Str} {v : V} {A : Around} {E : Value → Shared → Prop}
theorem getattr_ok {b : Bool} {Q : Value → Shared → Prop} (I : Inv X pins σ H s) (e : H a = some (.ins C dx fs)) (c : Cls X.K C) (n : NoAttr X.K C f) (l : fs.lookup f = some v)
    (h : ∀ u s', Inv X pins σ H s' → RelV v u → Q u s') : wpAny (model X.prog X.w) A (getAttr (.ref a) f b) Q E s := by
  obtain ⟨mA, O, r, _, _, _⟩ := ins_get I.hok e
  obtain ⟨u, hu, ru⟩ := RelO.some_of (v := v) (o := mA f) (by rw [← l]; exact r f)
  exact get_map I.kIn O (c.get f) c.hd n hu (handed_of ru) (h u _ (I.tok _) ru)
theorem getmeth_ok {m : Str} {g : Addr} {pl : Sem Bool} {Q : Value × List Value → Shared → Prop} (I : Inv X pins σ H s) (e : H a = some (.ins C dx fs)) (c : Cls X.K C) (k : Meth X.K C m g) (l : fs.lookup m = none)
    (h : Q (.ref g, [.ref a]) s) : wpAny (model X.prog X.w) A (getMethod (.ref a) m pl) Q E s := by
  obtain ⟨mA, O, r, _, _, _⟩ := ins_get I.hok e
  have hn : mA m = none := RelO.none_of (by rw [← l]; exact r m)
  exact get_meth I.kIn O (c.get m) k.at_ k.fn hn h
theorem setattr_ok {y : V} {u : Value} {Q : Unit → Shared → Prop} (I : Inv X pins σ H s) (e : H a = some (.ins C dx fs)) (c : Cls X.K C) (n : NoAttr X.K C f) (hl : fs.length < 1000) (ry : RelV y u)
    (h : ∀ s', Inv X pins σ (upd H a (.ins C dx (putF f y fs))) s' → Q () s') : wpAny (model X.prog X.w) A (setAttr (.ref a) f u) Q E s := by
  obtain ⟨mA, O, r, wi, _, ho⟩ := ins_get I.hok e
  have hz : (fs.map (·.1)).length ≤ sizeLine := by rw [List.length_map, sizeLine_eq]; omega
  refine set_map I.kIn O c.sa c.po n.taker c.hd wi hz fun h' O' sb => h _ ?_
  have hd : ∃ o, h'.get? dx = some o := let ⟨o, _, _, e', _⟩ := O'.ns; ⟨o, e'⟩
  refine I.write (x := a) (e := dx) (by rw [e]; exact True.intro) (.inr ho) (fun b q hb z => (sb.2 b hb).trans z) hd ?_
  refine ⟨by rw [upd_ne O.ne]; exact ho, ?_, O.ne, O'.obj, _, O'.ns, fun g => ?_, fun g hg => ?_⟩
  · have := length_putF f y fs; omega
  · show RelO ((putF f y fs).lookup g) (if g = f then some u else mA g)
    rw [lookup_putF]
    by_cases q : g = f
    · rw [if_pos q, if_pos q]; exact ry
    · rw [if_neg q, if_neg q]; exact r g
  · by_cases q : g = f
    · rw [q]; exact (keys_putF f y fs).1
    · refine (keys_putF f y fs).2 g (wi g fun z => hg ?_)
      show (if g = f then some u else mA g) = none
      rw [if_neg q]; exact z
/-- a new instance, tracked, without attributes -/
theorem Inv.made (I : Inv X pins σ H s) : Inv X pins σ (upd (upd H s.heap.objs.size (.own (s.heap.objs.size + 1))) (s.heap.objs.size + 1) (.ins C s.heap.objs.size []))
    { s with heap := (s.heap.push PySem.W.emptyDict).push (PySem.W.instObj C s.heap.objs.size) } := by
  have e1 : (s.heap.push PySem.W.emptyDict).get? s.heap.objs.size = some PySem.W.emptyDict := Heap.get?_push_size s.heap rfl
  have e2 : ((s.heap.push PySem.W.emptyDict).push (PySem.W.instObj C s.heap.objs.size)).get? (s.heap.objs.size + 1) = some (PySem.W.instObj C s.heap.objs.size) := by
    have := Heap.get?_push_size (s.heap.push PySem.W.emptyDict) (o := PySem.W.instObj C s.heap.objs.size) rfl
    rwa [Heap.size_push] at this
  have e3 : (s.heap.push PySem.W.emptyDict).Ns s.heap.objs.size (fun _ => none) := ⟨PySem.W.emptyDict, #[], _, e1, rfl, (fun e he => absurd he (by simp)), fun _ => rfl⟩
  have I1 := I.laid (a := s.heap.objs.size) (o := .own (s.heap.objs.size + 1)) (h' := s.heap.push PySem.W.emptyDict) (t' := s.toks) (fun b u q => Heap.get?_push_of_some _ q) (Nat.le_refl _) ⟨_, e1⟩
  refine I1.laid (a := s.heap.objs.size + 1) (o := .ins C s.heap.objs.size []) (t' := s.toks) (fun b u q => Heap.get?_push_of_some _ q) (Nat.le_of_eq (Heap.size_push _ _)) ?_
  have ne : s.heap.objs.size ≠ s.heap.objs.size + 1 := Nat.ne_of_lt (Nat.lt_succ_self _)
  refine ⟨by rw [upd_ne ne, upd_same], Nat.zero_le _, ne, e2, fun _ => none, (Heap.Ns1.of_empty e3).at fun o q => Heap.get?_push_of_some _ q, fun _ => True.intro, fun y hy => absurd rfl hy⟩
/-- e.f where nothing but the object is asked: through attributeBase (super) and the last hold -/
theorem attr_of {prog : Program} {w : World} {env : Env} {e : Expr} {f : Str} {pos : Pos} {s : Shared} {Q : Value → Shared → Prop} (hb : attributeBase e f env (eval e env) = eval e env)
    (h : wpAny (model prog w) A (eval e env) (fun o s₁ => wpAny (model prog w) A (getAttr o f true) Q E s₁) E s) : wpAny (model prog w) A (eval (.Attribute e f pos) env) Q E s :=
  Attribute_any_ h (by rw [arm_eval_Attribute, hb])
end
/-- e.f, an attribute of the instance -/
def tFld (K : PySem.W.Frag) (ta : TE) (f : Str) : TE := fun σ H Q => ta σ H fun x H1 => ∃ a C dx fs v, x = .ref a ∧ H1 a = some (.ins C dx fs) ∧ Cls K C ∧ NoAttr K C f ∧ fs.lookup f = some v ∧ Q v H1
/-- e.f = value -/
def sFld (K : PySem.W.Frag) (ta tv : TE) (f : Str) : TS := fun D σ H => tv σ H fun y H1 => ta σ H1 fun x H2 => ∃ a C dx fs, x = .ref a ∧ H2 a = some (.ins C dx fs) ∧ Cls K C ∧ NoAttr K C f ∧ fs.length < 1000 ∧
  D.nx σ (upd H2 a (.ins C dx (putF f y fs)))
/-- an augmented operator on two values -/
def InOp (X : Cx) (op : Operator) (rd : V → V → Hp → VK → Prop) : Prop :=
  ∀ (pins : List (Addr × Obj)) (s : Shared) (σ : St) (H : Hp) (x y : V) (u v : Value) (Q : VK), Inv X pins σ H s → RelV x u → RelV y v → rd x y H Q → wpAny (model X.prog X.w) X.A (inplaceOp op u v) (EP X pins σ Q) X.xe s
/-- e.f op= value -/
def sFldAug (K : PySem.W.Frag) (ta tv : TE) (rd : V → V → Hp → VK → Prop) (f : Str) : TS := fun D σ H => ta σ H fun x H1 => ∃ a C dx fs v, x = .ref a ∧ H1 a = some (.ins C dx fs) ∧ Cls K C ∧ NoAttr K C f ∧ fs.lookup f = some v ∧
  tv σ H1 fun y H2 => rd v y H2 fun z H3 => ∃ dx' fs', H3 a = some (.ins C dx' fs') ∧ fs'.length < 1000 ∧ D.nx σ (upd H3 a (.ins C dx' (putF f z fs')))
section
variable {X : Cx} {o e value : Expr} {f : Str} {pos pos' tpos : Pos} {ta tv : TE}
theorem pe_fld (he : PE X e ta) (hb : attributeBase e f X.env (eval e X.env) = eval e X.env) : PE X (.Attribute e f pos) (tFld X.K ta f) := by
  intro pins s σ H Q I h
  refine attr_of hb (thn (he pins s σ H _ I h) fun u s1 ⟨x, H1, I1, rx, a, C, dx, fs, v, ex, ea, c, n, l, q⟩ => ?_)
  subst ex
  obtain rfl : u = Value.ref a := rx
  exact getattr_ok I1 ea c n l fun u' s2 I2 ru => ⟨v, H1, I2, ru, q⟩
theorem ps_fld (ha : PE X o ta) (hv : PE X value tv) (hs : swapsWith value (some (.Attribute o f pos')) pos.line X.env = pure false) : PS X (.Assign [.Attribute o f pos'] value pos) (sFld X.K ta tv f) := by
  intro pins s σ H D I h
  refine plainObj_wpAny_Assign_Attribute (thn (hv pins s σ H _ I h) fun u s1 ⟨y, H1, I1, ry, q⟩ => thn (ha pins s1 σ H1 _ I1 q) fun ov s2 ⟨x, H2, I2, rx, a, C, dx, fs, ex, ea, c, n, l, q2⟩ => ?_) hs
  subst ex
  obtain rfl : ov = Value.ref a := rx
  exact setattr_ok I2 ea c n l ry fun s3 I3 => ⟨σ, _, I3, q2⟩
theorem ps_fldaug {op : Operator} {rd : V → V → Hp → VK → Prop} (ha : PE X o ta) (hv : PE X value tv) (hop : InOp X op rd) : PS X (.AugAssign (.Attribute o f tpos) op value pos) (sFldAug X.K ta tv rd f) := by
  intro pins s σ H D I h
  refine wpAny_AugAssign_AttributeAny (thn (ha pins s σ H _ I h) fun ov s1 ⟨x, H1, I1, rx, a, C, dx, fs, v, ex, ea, c, n, l, q⟩ => ?_)
  subst ex
  obtain rfl : ov = Value.ref a := rx
  refine getattr_ok I1 ea c n l fun u s2 I2 ru => thn (hv pins s2 σ H1 _ I2 q) fun w3 s3 ⟨y, H2, I3, ry, q3⟩ => thn (hop pins s3 σ H2 v y u w3 _ I3 ru ry q3) fun w4 s4 ⟨z, H3, I4, rz, dx', fs', ea', l', q4⟩ => ?_
  exact setattr_ok I4 ea' c n l' rz fun s5 I5 => ⟨σ, _, I5, q4⟩
def rAdd : V → V → Hp → VK → Prop := fun x y H Q => ∃ i j, x = .int i ∧ y = .int j ∧ Q (.int (i + j)) H
theorem in_add : InOp X .Add rAdd := by
  rintro pins s σ H x y u v Q I rx ry ⟨i, j, rfl, rfl, q⟩
  obtain ⟨t, rfl⟩ := (show ∃ t, u = Value.int i t from rx)
  obtain ⟨t', rfl⟩ := (show ∃ t', v = Value.int j t' from ry)
  exact PyProof.Rows.iadd_int ⟨.int (i + j), H, I.tok _, ⟨_, rfl⟩, q⟩
end
end L2
namespace L2
open PySem PySem.Spec PyProof.Rows
structure Room (k : Nat) (A : Around) : Prop where
  hd : A.handled = none
  dp : A.depth + 3 * k + 5 < recursionLimit
  un : A.units + 16 * k + 200 < cLine
theorem Room.mono {j k : Nat} {A : Around} (r : Room k A) (h : j ≤ k) : Room j A := ⟨r.hd, by have := r.dp; omega, by have := r.un; omega⟩
theorem Room.deeper {k : Nat} {A : Around} (r : Room (k + 1) A) (env : Env) : Room k (A.deeper env) :=
  ⟨r.hd, by have := r.dp; show A.depth + 1 + 3 * k + 5 < _; omega, by have := r.un; show A.units + 3 + 16 * k + 200 < _; omega⟩
theorem make_depth {A : Around} {C : Addr} {us : List Value} {kw : List (Str × Value)} : (A.under (.builtin "type.__call__" ⟨.ref C :: us, kw⟩)).depth = A.depth + 1 := by
  first | rfl | simp [Around.under, Code.weight, Code.isCreation, Code.isGuard, Code.isCaller, Code.frames, Code.isFrame, guardIds]
theorem make_units {A : Around} {C : Addr} {us : List Value} {kw : List (Str × Value)} : (A.under (.builtin "type.__call__" ⟨.ref C :: us, kw⟩)).units = A.units + 1 := by
  first | rfl | simp [Around.under, Code.cUnits, Code.frames, Code.isFrame]
theorem Room.make {k : Nat} {A : Around} (r : Room (k + 1) A) (C : Addr) (us : List Value) (kw : List (Str × Value)) : Room k (A.under (.builtin "type.__call__" ⟨.ref C :: us, kw⟩)) :=
  ⟨r.hd, by have := r.dp; rw [make_depth]; omega, by have := r.un; rw [make_units]; omega⟩
theorem Room.depth {k : Nat} {A : Around} (r : Room k A) : A.depth < recursionLimit := by have := r.dp; omega
theorem Room.units {k : Nat} {A : Around} (r : Room k A) : A.units + 64 < cLine := by have := r.un; omega
def tNil : TA := fun _ H Q => Q [] H
def tCons (ta : TE) (tr : TA) : TA := fun σ H Q => ta σ H fun x H1 => tr σ H1 fun xs H2 => Q (x :: xs) H2
section
variable {X : Cx} {e : Expr} {es : List Expr} {te : TE} {t : TA} {pos : Pos}
theorem pa_nil : PA X [] tNil := fun _ _ _ _ H Q I h => Calls.spliced_nil ⟨[], H, I, .nil, h⟩
theorem pa_cons (ha : PE X e te) (hr : PA X es t) (hs : starEach (e :: es) X.env = (false, eval e X.env) :: starEach es X.env := by rfl) : PA X (e :: es) (tCons te t) := by
  intro pos pins s σ H Q I h
  rw [hs]
  show wpAny _ _ (spliced ((false, eval e X.env) :: backTo pos (starEach es X.env))) _ _ s
  refine Calls.spliced_cons (thn (ha pins s σ H _ I h) fun u s1 ⟨x, H1, I1, r1, q1⟩ => ?_)
  exact thn (hr pos pins s1 σ H1 _ I1 q1) fun us s2 ⟨xs, H2, I2, r2, q2⟩ => ⟨x :: xs, H2, I2, .cons r1 r2, q2⟩
/-- a tuple, a list of written items -/
def tTup (t : TA) : TE := fun σ H Q => t σ H fun xs H1 => xs.length ≤ sizeLine ∧ ∀ p, H1 p = none → Q (.ref p) (upd H1 p (.tup xs))
def tLst (t : TA) : TE := fun σ H Q => t σ H fun xs H1 => xs.length ≤ sizeLine ∧ ∀ p, H1 p = none → Q (.ref p) (upd H1 p (.lst xs))
theorem pe_tup {x1} (h : PA X es t) : PE X (.Tuple es x1 pos) (tTup t) := by
  intro pins s σ H Q I hq
  refine wpAny_Tuple_spliced (thn (h pos pins s σ H _ I hq) fun us s1 ⟨xs, H1, I1, r, z, q⟩ => ⟨by rw [← r.length]; exact z, ?_⟩)
  have hf : H1 s1.heap.objs.size = none := I1.hok.fresh (Nat.le_refl _)
  refine ⟨.ref s1.heap.objs.size, upd H1 s1.heap.objs.size (.tup xs), I1.laid (t' := s1.toks) (fun b u e => Heap.get?_push_of_some _ e) (Nat.le_refl _) ?_, rfl, q _ hf⟩
  exact ⟨z, us, r, ⟨_, Heap.get?_push_size _ rfl, rfl, _, rfl⟩⟩
theorem pe_lst (h : PA X es t) : PE X (.List es pos) (tLst t) := by
  intro pins s σ H Q I hq
  refine wpAny_List_spliced (thn (h pos pins s σ H _ I hq) fun us s1 ⟨xs, H1, I1, r, z, q⟩ => ⟨by rw [← r.length]; exact z, ?_⟩)
  have hf : H1 s1.heap.objs.size = none := I1.hok.fresh (Nat.le_refl _)
  refine ⟨.ref s1.heap.objs.size, upd H1 s1.heap.objs.size (.lst xs), I1.laid (t' := s1.toks) (fun b u e => Heap.get?_push_of_some _ e) (Nat.le_refl _) ?_, rfl, q _ hf⟩
  exact ⟨z, us, 0, r, Heap.get?_push_size _ rfl⟩
end
/-- a def's promise: the bound arguments in the parameters' order, the heap, the wanted end, the wanted exception -/
abbrev Sp := List V → Hp → VK → XK → Prop
/-- how an exception lies behind a call (file 08 gives it): the callers' frames, abstract heap and state ahead of the call, the wish, the exception, the state -/
abbrev CXT := List Env → Hp → Shared → XK → Value → Shared → Prop
/-- the state at a call -/
structure Env0 (P : Program) (w : World) (K : PySem.W.Frag) (mg : Str → Option Value) (base : Heap) (A : Around) (outer : List Env) (s : Shared) (H : Hp) : Prop where
  frames : A.frames = some outer
  mod : Mod K mg base
  bs : ∀ b o, base.get? b = some o → s.heap.get? b = some o ∧ H b = none
  bsz : base.objs.size ≤ s.heap.objs.size
  funs : s.heap.FunFrames base outer
  frf : ∀ b ∈ frs outer, H b = none
  hok : HOk P w H s.heap
  bare : AllBare s.gens
/-- a call's end -/
def CE (outer : List Env) (P : Program) (w : World) (H : Hp) (s : Shared) (Q : VK) (u : Value) (s' : Shared) : Prop :=
  ∃ v H', s'.os = s.os ∧ AllBare s'.gens ∧ Un (frs outer) [] H H' s.heap s'.heap ∧ HOk P w H' s'.heap ∧ RelV v u ∧ Q v H'
def CR (CX : CXT) (outer : List Env) (P : Program) (w : World) (H : Hp) (s : Shared) (Q : VK) (E : XK) (r : Result) (s' : Shared) : Prop :=
  match r with
  | .ok (.ret u) => CE outer P w H s Q u s'
  | .ok _ => False
  | .error e => CX outer H s E e s'
structure FnOk (P : Program) (w : World) (K : PySem.W.Frag) (mg : Str → Option Value) (base : Heap) (CX : CXT) (k : Nat) (f : Addr) (fd : FuncData) (ps : List Str) (sp : Sp) : Prop where
  len : ∀ vs H Q E, sp vs H Q E → vs.length = ps.length
  run : ∀ (A : Around) (outer : List Env) (s : Shared) (H : Hp) (args : Args) (us : List Value) (vs : List V) (Q : VK) (E : XK), Room k A → Env0 P w K mg base A outer s H → BindsTo s fd args (ps.zip us) → Vals vs us → sp vs H Q E →
    codeAny (model P w) A (.call (.ref f) args) (CR CX outer P w H s Q E) s
theorem FnOk.mono {P : Program} {w : World} {K : PySem.W.Frag} {mg : Str → Option Value} {base : Heap} {CX : CXT} {j k : Nat} {f : Addr} {fd : FuncData} {ps : List Str} {sp : Sp} (F : FnOk P w K mg base CX j f fd ps sp) (h : j ≤ k) :
    FnOk P w K mg base CX k f fd ps sp := ⟨F.len, fun A outer s H args us vs Q E hr => F.run A outer s H args us vs Q E (hr.mono h)⟩
theorem Env0.make {P : Program} {w : World} {K : PySem.W.Frag} {mg : Str → Option Value} {base : Heap} {A : Around} {outer : List Env} {s : Shared} {H : Hp} (e : Env0 P w K mg base A outer s H) (C : Addr) (us : List Value) (kw : List (Str × Value)) :
    Env0 P w K mg base (A.under (.builtin "type.__call__" ⟨.ref C :: us, kw⟩)) outer s H := ⟨by first | exact e.frames | (simpa [Around.under, Code.envs, Code.isFrame, pushEnvs] using e.frames), e.mod, e.bs, e.bsz, e.funs, e.frf, e.hok, e.bare⟩
section
variable {X : Cx} {pins : List (Addr × Obj)} {σ : St} {H : Hp} {s s' : Shared}
/-- from a body: what a callee wants -/
theorem Inv.env0 (I : Inv X pins σ H s) : Env0 X.prog X.w X.K X.mg X.base X.A X.stack s H :=
  ⟨I.ok.frames, I.ok.mod, I.bs, Nat.le_trans I.ok.bsz I.sz, I.stack, I.stkFree, I.hok, I.bare⟩
/-- behind a call -/
theorem Inv.after {Q : VK} {u : Value} (I : Inv X pins σ H s) (h : CE X.stack X.prog X.w H s Q u s') : EP X pins σ Q u s' := by
  obtain ⟨v, H', os, bare, un, hok, r, q⟩ := h
  obtain ⟨hh, g, d, t, os'⟩ := s'
  obtain rfl : os' = s.os := os
  exact ⟨v, H', I.call (h' := hh) (g' := g) (d' := d) (t' := t) (ch := []) un hok bare (fun b z => absurd z (by simp)), r, q⟩
end
/-- f(..): the written arguments, then the defaults dvs; E: what is wanted of an exception -/
def tCall (sp : Sp) (dvs : List V) (E : XK) (t : TA) : TE := fun σ H Q => t σ H fun vs H1 => sp (vs ++ dvs) H1 Q E
/-- o.m(..) of an instance of the class at C -/
def tMeth (C : Addr) (m : Str) (sp : Sp) (dvs : List V) (E : XK) (ta : TE) (t : TA) : TE := fun σ H Q => ta σ H fun x H1 => ∃ a dx fs, x = .ref a ∧ H1 a = some (.ins C dx fs) ∧ fs.lookup m = none ∧
  t σ H1 fun vs H2 => sp (x :: (vs ++ dvs)) H2 Q E
/-- C(..): a new instance and its dict, then __init__ -/
def tMake (C : Addr) (sp : Sp) (dvs : List V) (E : XK) (t : TA) : TE := fun σ H Q => t σ H fun vs H1 => ∀ x dx, H1 x = none → H1 dx = none → dx ≠ x →
  sp (.ref x :: (vs ++ dvs)) (upd (upd H1 dx (.own x)) x (.ins C dx [])) (fun v H2 => v = .non ∧ Q (.ref x) H2) E
/-- how the parameters are bound: us the positional arguments, kw the keywords' values by name, ds the defaults that fill up -/
def Binds (K : PySem.W.Frag) (fd : FuncData) (ps : List Str) (ds : List Value) : Prop :=
  ∀ (s : Shared) (us : List Value), K.In s.heap → (us ++ ds).length = ps.length → BindsTo s fd ⟨us, []⟩ (ps.zip (us ++ ds))
/-- every parameter is given -/
theorem Binds.all {K : PySem.W.Frag} {fd : FuncData} {ps : List Str} (h : ∀ us : List Value, us.length = ps.length → bindArgs fd ⟨us, []⟩ = pure (ps.zip us)) : Binds K fd ps [] := fun s us _ hl => by
  rw [List.append_nil] at hl ⊢
  exact .of_eq (h us hl)
/-- an exception of a callee reaches what this body wants of exceptions -/
def Passes (CX : CXT) (X : Cx) (E : XK) : Prop := ∀ (pins : List (Addr × Obj)) (σ : St) (H : Hp) (s : Shared) (e : Value) (s' : Shared), Inv X pins σ H s → CX X.stack H s E e s' → X.xe e s'
section
variable {X : Cx} {CX : CXT} {k : Nat} {f C : Addr} {fd : FuncData} {ps : List Str} {sp : Sp} {dvs : List V} {ds : List Value} {E : XK} {x m : Str} {p pos apos : Pos} {e o : Expr} {es : List Expr} {ta : TE} {t : TA}
/-- the callee runs -/
theorem run_fn {pins : List (Addr × Obj)} {σ : St} {H : Hp} {s : Shared} {Q : VK} {us : List Value} {vs : List V} (F : FnOk X.prog X.w X.K X.mg X.base CX k f fd ps sp) (hr : Room k X.A) (hb : Binds X.K fd ps ds) (hd : Vals dvs ds) (hx : Passes CX X E)
    (I : Inv X pins σ H s) (r : Vals vs us) (h : sp (vs ++ dvs) H Q E) : wpAny (model X.prog X.w) X.A (call (.ref f) us) (EP X pins σ Q) X.xe s := by
  have r2 : Vals (vs ++ dvs) (us ++ ds) := r.append hd
  have hl : (us ++ ds).length = ps.length := by rw [← r2.length]; exact F.len _ _ _ _ h
  refine wpAny_call (codeAny_mono (F.run X.A X.stack s H ⟨us, []⟩ (us ++ ds) (vs ++ dvs) Q E hr I.env0 (hb s us I.kIn hl) r2 h) fun r s' hq => ?_)
  cases r with
  | error e => exact hx pins σ H s e s' I hq
  | ok fl =>
    cases fl with
    | ret u => exact I.after hq
    | next => exact False.elim hq
    | brk => exact False.elim hq
    | cont => exact False.elim hq
theorem pe_call (F : FnOk X.prog X.w X.K X.mg X.base CX k f fd ps sp) (hr : Room k X.A) (hg : Gl X x) (hm : X.mg x = some (.ref f)) (hk : PySem.W.keepIn X.K (.ref f) = true) (hb : Binds X.K fd ps ds) (hd : Vals dvs ds) (hx : Passes CX X E)
    (ha : PA X (e :: es) t) (hdb : (x == ("__debug__" : Str)) = false := by decide) (he : starEach (e :: es) X.env = (false, eval e X.env) :: starEach es X.env := by rfl) (hpl : (backTo pos (starEach es X.env)).any (·.1) = false := by rfl) :
    PE X (.Call (.Name x p) (e :: es) [] pos) (tCall sp dvs E t) := by
  intro pins s σ H Q I h
  refine wpAny_Call_Name_kw (ld_glob I hg hm ?_ hdb)
  refine PySem.W.callWith_K (h₀ := X.base) I.ok.mod.kin hk (thn (ha pos pins s σ H _ I h) fun us s1 ⟨vs, H1, I1, r, q⟩ => ⟨I1.kIn, ?_⟩) he hpl
  exact run_fn F hr hb hd hx I1 r q
/-- o.m(e, ..) -/
theorem pe_meth {pl : Sem Bool} (he : PE X o ta) (c : Cls X.K C) (hm : Meth X.K C m f) (F : FnOk X.prog X.w X.K X.mg X.base CX k f fd ps sp) (hr : Room k X.A) (hb : Binds X.K fd ps ds) (hd : Vals dvs ds) (hx : Passes CX X E) (ha : PA X (e :: es) t)
    (hst : starEach (e :: es) X.env = (false, eval e X.env) :: starEach es X.env := by rfl) (hpl : (backTo pos (starEach es X.env)).any (·.1) = false := by rfl)
    (ht : eval (.Call (.Attribute o m apos) (e :: es) [] pos) X.env = (do
      let ov ← eval o X.env
      standAt apos.atName
      let (f, first) ← holding [ov] (getMethod ov m pl)
      callWith pos f first (backTo pos (starEach (e :: es) X.env)) (backToKw pos (keywordEach [] X.env))) := by rfl) :
    PE X (.Call (.Attribute o m apos) (e :: es) [] pos) (tMeth C m sp dvs E ta t) := by
  intro pins s σ H Q I h
  refine PySem.W.methodCall_KW (pl := pl) (thn (he pins s σ H _ I h) fun u s1 ⟨x, H1, I1, rx, a, dx, fs, ex, ea, l, q⟩ => ?_) ht
  subst ex
  obtain rfl : u = Value.ref a := rx
  refine getmeth_ok I1 ea c hm l ?_
  refine PySem.W.callWith_K (first := [.ref a]) (h₀ := X.base) I.ok.mod.kin hm.kp (thn (ha pos pins s1 σ H1 _ I1 q) fun us s2 ⟨vs, H2, I2, r, q2⟩ => ⟨I2.kIn, ?_⟩) hst hpl
  exact run_fn (us := .ref a :: us) (vs := .ref a :: vs) F hr hb hd hx I2 (.cons rfl r) q2
/-- o.m() -/
theorem pe_meth0 {pl : Sem Bool} (he : PE X o ta) (c : Cls X.K C) (hm : Meth X.K C m f) (F : FnOk X.prog X.w X.K X.mg X.base CX k f fd ps sp) (hr : Room k X.A) (hb : Binds X.K fd ps ds) (hd : Vals dvs ds) (hx : Passes CX X E)
    (ht : eval (.Call (.Attribute o m apos) [] [] pos) X.env = (do
      let ov ← eval o X.env
      standAt apos.atName
      let (f, first) ← holding [ov] (getMethod ov m pl)
      callWith pos f first (backTo pos (starEach [] X.env)) (backToKw pos (keywordEach [] X.env))) := by rfl) :
    PE X (.Call (.Attribute o m apos) [] [] pos) (tMeth C m sp dvs E ta tNil) := by
  intro pins s σ H Q I h
  refine PySem.W.methodCall_KW (pl := pl) (thn (he pins s σ H _ I h) fun u s1 ⟨x, H1, I1, rx, a, dx, fs, ex, ea, l, q⟩ => ?_) ht
  subst ex
  obtain rfl : u = Value.ref a := rx
  refine getmeth_ok I1 ea c hm l ?_
  exact PySem.W.callWith_K0 (first := [.ref a]) I1.kIn hm.kp (run_fn (us := [.ref a]) (vs := [.ref a]) F hr hb hd hx I1 (.cons rfl .nil) q)
/-- what a class must have to be made -/
structure Mk (K : PySem.W.Frag) (C f : Addr) : Prop where
  makes : PySem.W.makesIn K C = true
  init : PySem.W.findIn K (.ref C) "__init__" = some (some (.ref f))
  fn : PySem.W.isFn K (.ref f) = true
  kp : PySem.W.keepIn K (.ref C) = true
theorem run_make {pins : List (Addr × Obj)} {σ : St} {H : Hp} {s : Shared} {Q : VK} {us : List Value} {vs : List V} (M : Mk X.K C f) (F : FnOk X.prog X.w X.K X.mg X.base CX k f fd ps sp) (hr : Room (k + 1) X.A) (hb : Binds X.K fd ps ds) (hd : Vals dvs ds)
    (hx : Passes CX X E) (I : Inv X pins σ H s) (r : Vals vs us)
    (h : ∀ x dx, H x = none → H dx = none → dx ≠ x → sp (.ref x :: (vs ++ dvs)) (upd (upd H dx (.own x)) x (.ins C dx [])) (fun v H2 => v = .non ∧ Q (.ref x) H2) E) :
    wpAny (model X.prog X.w) X.A (call (.ref C) us) (EP X pins σ Q) X.xe s := by
  have hq := h (s.heap.objs.size + 1) s.heap.objs.size (I.hok.fresh (Nat.le_succ _)) (I.hok.fresh (Nat.le_refl _)) (Nat.ne_of_lt (Nat.lt_succ_self _))
  have I2 := Inv.made (C := C) I
  have r2 : Vals (V.ref (s.heap.objs.size + 1) :: (vs ++ dvs)) (Value.ref (s.heap.objs.size + 1) :: (us ++ ds)) := .cons rfl (r.append hd)
  have hl : (Value.ref (s.heap.objs.size + 1) :: us ++ ds).length = ps.length := by
    have e := r2.length
    rw [F.len _ _ _ _ hq] at e
    exact e.symm
  refine wpAny_call (make_map (f := f) I.kIn M.makes M.init (beq_iff_eq.mp M.fn) (codeAny_mono (F.run _ X.stack _ _ ⟨Value.ref (s.heap.objs.size + 1) :: us, []⟩ (Value.ref (s.heap.objs.size + 1) :: (us ++ ds)) _ _ E (hr.make C us [])
    (I2.env0.make C us []) (hb _ (Value.ref (s.heap.objs.size + 1) :: us) I2.kIn hl) r2 hq) fun r s' hq' => ?_))
  cases r with
  | error e => exact hx pins σ _ _ e s' I2 hq'
  | ok fl =>
    cases fl with
    | ret u =>
      obtain ⟨v, H', I3, rv, ev, q3⟩ := I2.after hq'
      subst ev
      exact ⟨rv, ⟨V.ref (s.heap.objs.size + 1), H', I3, rfl, q3⟩⟩
    | next => exact False.elim hq'
    | brk => exact False.elim hq'
    | cont => exact False.elim hq'
theorem pe_make (M : Mk X.K C f) (F : FnOk X.prog X.w X.K X.mg X.base CX k f fd ps sp) (hr : Room (k + 1) X.A) (hg : Gl X x) (hm : X.mg x = some (.ref C)) (hb : Binds X.K fd ps ds) (hd : Vals dvs ds) (hx : Passes CX X E)
    (ha : PA X (e :: es) t) (hdb : (x == ("__debug__" : Str)) = false := by decide) (he : starEach (e :: es) X.env = (false, eval e X.env) :: starEach es X.env := by rfl) (hpl : (backTo pos (starEach es X.env)).any (·.1) = false := by rfl) :
    PE X (.Call (.Name x p) (e :: es) [] pos) (tMake C sp dvs E t) := by
  intro pins s σ H Q I h
  refine wpAny_Call_Name_kw (ld_glob I hg hm ?_ hdb)
  refine PySem.W.callWith_K (h₀ := X.base) I.ok.mod.kin M.kp (thn (ha pos pins s σ H _ I h) fun us s1 ⟨vs, H1, I1, r, q⟩ => ⟨I1.kIn, ?_⟩) he hpl
  exact run_make M F hr hb hd hx I1 r q
end
/-- names: the parameters first -/
structure FnScope (N P : List Str) (sc : Scope) : Prop where
  kind : sc.kind = .function
  co : sc.isCoroutine = false
  gen : sc.isGenerator = false
  nd : N.Nodup
  pre : N.take P.length = P
  par : ∀ x ∈ P, sc.names.lookup x = some .local ∨ sc.names.lookup x = some .cell
  nofree : ∀ y ∈ sc.names, y.2 ≠ .free
theorem bindL_out {kindOf : Str → Option NameKind} {x : Str} : ∀ {binds : List (Str × Value)} {m : Str → Option Value}, (∀ v, (x, v) ∉ binds) → bindL kindOf binds m x = m x
  | [], _, _ => rfl
  | (n, v) :: r, m, h => by
    unfold bindL
    rw [bindL_out fun w hw => h w (List.mem_cons_of_mem _ hw)]
    split
    · have : x ≠ n := by rintro rfl; exact h v List.mem_cons_self
      simp [this]
    · rfl
theorem bindC_out {kindOf : Str → Option NameKind} {x : Str} : ∀ {binds : List (Str × Value)} {m : Str → Option Value}, (∀ v, (x, v) ∉ binds) → bindC kindOf binds m x = m x
  | [], _, _ => rfl
  | (n, v) :: r, m, h => by
    unfold bindC
    rw [bindC_out fun w hw => h w (List.mem_cons_of_mem _ hw)]
    split
    · rfl
    · have : x ≠ n := by rintro rfl; exact h v List.mem_cons_self
      simp [this]
theorem bindL_get {kindOf : Str → Option NameKind} {x : Str} {v : Value} : ∀ {P : List Str} {vs : List Value} {i : Nat} {m : Str → Option Value}, P.Nodup → P[i]? = some x → vs[i]? = some v → kindOf x = some .local →
    bindL kindOf (P.zip vs) m x = some v
  | [], _, _, _, _, h, _, _ => by simp at h
  | _ :: _, [], _, _, _, _, h, _ => by simp at h
  | p :: P, w :: vs, 0, m, nd, h1, h2, hk => by
    simp at h1 h2; subst h1; subst h2
    show bindL kindOf ((p, w) :: P.zip vs) m p = _
    unfold bindL
    rw [bindL_out fun v hv => (List.nodup_cons.mp nd).1 (List.of_mem_zip hv).1, if_pos hk]
    simp
  | p :: P, w :: vs, i + 1, m, nd, h1, h2, hk => by
    show bindL kindOf ((p, w) :: P.zip vs) m x = _
    unfold bindL
    exact bindL_get (i := i) (List.nodup_cons.mp nd).2 (by simpa using h1) (by simpa using h2) hk
theorem bindC_get {kindOf : Str → Option NameKind} {x : Str} {v : Value} : ∀ {P : List Str} {vs : List Value} {i : Nat} {m : Str → Option Value}, P.Nodup → P[i]? = some x → vs[i]? = some v → kindOf x ≠ some .local →
    bindC kindOf (P.zip vs) m x = some v
  | [], _, _, _, _, h, _, _ => by simp at h
  | _ :: _, [], _, _, _, _, h, _ => by simp at h
  | p :: P, w :: vs, 0, m, nd, h1, h2, hk => by
    simp at h1 h2; subst h1; subst h2
    show bindC kindOf ((p, w) :: P.zip vs) m p = _
    unfold bindC
    rw [bindC_out fun v hv => (List.nodup_cons.mp nd).1 (List.of_mem_zip hv).1, if_neg hk]
    simp
  | p :: P, w :: vs, i + 1, m, nd, h1, h2, hk => by
    show bindC kindOf ((p, w) :: P.zip vs) m x = _
    unfold bindC
    exact bindC_get (i := i) (List.nodup_cons.mp nd).2 (by simpa using h1) (by simpa using h2) hk
/-- the names' values at the entry -/
def start (N : List Str) (vs : List V) : St := vs.map some ++ List.replicate (N.length - vs.length) none
/-- the context of a def's body, at its entry; an exception leaves the frame, then lies as CX says -/
def cxOf (CX : CXT) (P : Program) (w : World) (K : PySem.W.Frag) (mg : Str → Option Value) (base : Heap) (N : List Str) (qual : Str) (scope : Scope) (f : Addr) (cd : Value) (A : Around) (outer : List Env) (s : Shared) (H : Hp) (E : XK) : Cx where
  prog := P
  w := w
  K := K
  mg := mg
  base := base
  A := A.deeper (envOfC qual scope s.heap.objs.size f cd)
  N := N
  s_0 := s
  H_0 := H
  env := envOfC qual scope s.heap.objs.size f cd
  outer := outer
  stack := envOfC qual scope s.heap.objs.size f cd :: outer
  ex := []
  calm := true
  fn := fun _ => true
  pn := []
  xe := fun e s' => wpAny (model P w) (A.deeper (envOfC qual scope s.heap.objs.size f cd)) (leaving (envOfC qual scope s.heap.objs.size f cd) e) (fun _ s'' => CX outer H s E e s'') (fun e' s'' => CX outer H s E e' s'') s'
theorem cell_has {sc : Scope} {n : Nat} {x : Str} (h : sc.names.lookup x = some .cell) : ∃ c, (cellsFrom n sc.names []).lookup x = some c := by
  have q := PySem.W.cellsFrom_some sc.names n [] (.inl h)
  exact Option.isSome_iff_exists.mp q
theorem inv_start {CX : CXT} {P : Program} {w : World} {K : PySem.W.Frag} {mg : Str → Option Value} {base : Heap} {N ps : List Str} {qual : Str} {scope : Scope} {f : Addr} {cd : Value} {A : Around} {outer : List Env} {s s1 : Shared} {H : Hp} {E : XK} {us : List Value} {vs : List V}
    (S : FnScope N ps scope) (hd : A.handled = none) (e0 : Env0 P w K mg base A outer s H) (hl : vs.length = ps.length) (r : Vals vs us)
    (x : InCallC s s.heap.objs.size (bindL (envOfC qual scope s.heap.objs.size f cd).kindOf (ps.zip us) fun _ => none) (cellsFrom (s.heap.objs.size + 1) scope.names []) (bindC (envOfC qual scope s.heap.objs.size f cd).kindOf (ps.zip us) fun _ => none) s1) :
    Inv (cxOf CX P w K mg base N qual scope f cd A outer s H E) [] (start N vs) H s1 := by
  have hpl : ps.length ≤ N.length := by have := congrArg List.length S.pre; rw [List.length_take] at this; omega
  obtain ⟨h1, tk, rfl, hk⟩ := x.done
  have noA : ∀ b : Addr, b ∉ (cxOf CX P w K mg base N qual scope f cd A outer s H E).ex := fun b z => absurd (show b ∈ ([] : List Addr) from z) (by simp)
  refine ⟨⟨e0.mod, S.kind, rfl, rfl, Nat.le_refl _, fun y z c h1 h2 => ?_, fun y hy => ?_, fun y c _ h => ?_, fun _ => hd, Around.frames_deeper e0.frames, .inr ⟨rfl, rfl⟩, fun b z => absurd z (noA b), e0.bs, e0.bsz, fun b _ _ => noA b, fun b z => absurd z (noA b), e0.funs, e0.frf⟩,
    rfl, e0.bare, Un.kept hk, ⟨_, x.toInCall.ns, fun i y v h1 h2 h3 => ?_⟩, fun y c h => ⟨_, x.cell y c h⟩, e0.hok.fresh (Nat.le_refl _), fun y c h => ?_, fun p hp => absurd (show p ∈ ([] : List (Addr × Obj)) from hp) (by simp), e0.hok.kept hk, ?_⟩
  · exact name_of_addr x.apart (PySem.mem_of_lookup h1) (PySem.mem_of_lookup h2)
  · have hy : scope.names.lookup y = some .cell ∨ scope.names.lookup y = some .free := hy
    rcases hy with hy | hy
    · exact cell_has hy
    · exact absurd rfl (S.nofree _ (PySem.mem_of_lookup hy))
  · exact Nat.le_of_lt (x.above y c (PySem.mem_of_lookup h))
  · have hi : i < vs.length := by
      unfold start at h2
      by_cases hi : i < vs.length
      · exact hi
      · rw [List.getElem?_append_right (by simpa using hi)] at h2
        rw [List.getElem?_replicate] at h2
        split at h2 <;> cases h2
    have ha : vs[i]? = some v := by
      unfold start at h2
      rw [List.getElem?_append_left (by simpa using hi), List.getElem?_map] at h2
      cases e : vs[i]? with
      | none => rw [e] at h2; cases h2
      | some a => rw [e] at h2; cases h2; rfl
    obtain ⟨u, hu, rv⟩ := r.get ha
    have hp : ps[i]? = some y := by
      rw [← S.pre, List.getElem?_take_of_lt (by omega)]; exact h1
    have ndP : ps.Nodup := by rw [← S.pre]; exact S.nd.sublist (List.take_sublist _ _)
    refine ⟨u, rv, ?_⟩
    rcases S.par y (List.mem_of_getElem? hp) with k | k
    · exact .inl ⟨k, bindL_get ndP hp hu k⟩
    · obtain ⟨c, e⟩ := cell_has (n := s.heap.objs.size + 1) k
      refine .inr ⟨.inl k, c, e, ?_⟩
      have q := x.cell y c e
      rw [bindC_get ndP hp hu (by show scope.names.lookup y ≠ _; rw [k]; decide)] at q
      exact q
  · exact e0.hok.fresh (Nat.le_of_lt (x.above y c (PySem.mem_of_lookup h)))
  · unfold start
    show _ = N.length
    rw [List.length_append, List.length_map, List.length_replicate]
    omega
/-- THE RULE: a def (or a method) of the text, by its body. The body's reading t is chosen for each entry; it is run at the parameters' values -/
theorem fn_of {CX : CXT} {P : Program} {w : World} {K : PySem.W.Frag} {mg : Str → Option Value} {base : Heap} {k : Nat} {f : Addr} {name qual : Str} {params : Arguments} {body : List Stmt} {scope : Scope} {dV kV doc pm cdv ct oc : Value} {an od : Option Addr}
    {osl : Array (Option Value)} {N ps : List Str} {sp : Sp} (lk : K.lookup f = some ⟨oc, od, .func (PySem.W.fnOf name qual params body scope dV kV doc pm an cdv ct), osl⟩) (hcd : PySem.W.codeIn K cdv qual = true) (S : FnScope N ps scope)
    (len : ∀ vs H Q E, sp vs H Q E → vs.length = ps.length)
    (hbody : ∀ (A : Around) (outer : List Env) (s : Shared) (H : Hp) (vs : List V) (Q : VK) (E : XK), Room k (A.deeper (envOfC qual scope s.heap.objs.size f cdv)) → sp vs H Q E →
      ∃ t, PSs (cxOf CX P w K mg base N qual scope f cdv A outer s H E) body t ∧ t { nx := fun _ H' => Q .non H', rt := Q } (start N vs) H) :
    FnOk P w K mg base CX (k + 1) f (PySem.W.fnOf name qual params body scope dV kV doc pm an cdv ct) ps sp := by
  refine ⟨len, fun A outer s H args us vs Q E hr e0 hb r hsp => ?_⟩
  have hl := len _ _ _ _ hsp
  have KX : K.In s.heap := e0.mod.kin.keeps fun b o e => (e0.bs b o e).1
  have lim : s.heap.NoLimit := e0.mod.nolimit.keeps fun b o e => (e0.bs b o e).1
  have hkind : ∀ y ∈ ps.zip us, scope.names.lookup y.1 = some .local ∨ (scope.names.lookup y.1 = some .cell ∧ ((cellsFrom (s.heap.objs.size + 1) scope.names []).lookup y.1).isSome = true) := fun ⟨n, v⟩ hy => by
    rcases S.par n (List.of_mem_zip hy).1 with q | q
    · exact .inl q
    · exact .inr ⟨q, PySem.W.cellsFrom_some _ _ _ (.inl q)⟩
  refine codeAny_call_function hr.depth (KX _ _ lk) rfl S.co S.gen rfl (PySem.W.codeRec_of KX hcd) (hb _ _ _ _ ?_)
  refine wpAny_newFunctionEnv_cells S.kind hkind fun env he s1 x => ?_
  subst he
  refine ⟨lim.keeps x.toInCall.keep, codeAny_func ?_⟩
  obtain ⟨t, ht, hq⟩ := hbody A outer s H vs Q E (hr.deeper _) hsp
  have I : Inv (cxOf CX P w K mg base N qual scope f cdv A outer s H E) [] (start N vs) H s1 := inv_start S hr.hd e0 hl r x
  refine wpAny_mono (ht [] s1 (start N vs) H _ I hq) (fun fl s' hs => ?_) fun e s' hs => hs
  have fin : ∀ {σ' : St} {H' : Hp} {v : V} {u : Value}, Inv (cxOf CX P w K mg base N qual scope f cdv A outer s H E) [] σ' H' s' → RelV v u → Q v H' → CE outer P w H s Q u s' :=
    fun {σ' H' v u} J rv q => ⟨v, H', J.os, J.bare, J.base, J.hok, rv, q⟩
  cases fl with
  | ret u =>
    obtain ⟨v, σ', H', J, rv, q⟩ := hs
    exact fin J rv q
  | next =>
    obtain ⟨σ', H', J, q⟩ := hs
    exact fin (v := V.non) (u := Value.none) J rfl q
  | brk =>
    obtain ⟨_, _, _, q⟩ := hs
    exact False.elim q
  | cont =>
    obtain ⟨_, _, _, q⟩ := hs
    exact False.elim q
end L2
namespace L2
open PySem PySem.Spec PyProof.Rows
section
variable {X : Cx} {x : Str} {p pos : Pos} {e : Expr} {es : List Expr} {t : TA} {id T : String} {r : List V → Hp → VK → Prop}
def tCB (r : List V → Hp → VK → Prop) (t : TA) : TE := fun σ H Q => t σ H fun vs H1 => r vs H1 Q
/-- f(e, ..), f a built-in function -/
theorem pe_callB (hc : CallR X (.builtin id) r) (hg : Gl X x) (hm : X.mg x = none) (hv : bootBuiltins x = some (.builtin id)) (ha : PA X (e :: es) t) (hn : x ≠ "__name__" := by decide) (hdb : (x == ("__debug__" : Str)) = false := by decide)
    (he : starEach (e :: es) X.env = (false, eval e X.env) :: starEach es X.env := by rfl) (hpl : (backTo pos (starEach es X.env)).any (·.1) = false := by rfl) : PE X (.Call (.Name x p) (e :: es) [] pos) (tCB r t) := by
  intro pins s σ H Q I h
  refine wpAny_Call_Name_kw (ld_blt I hg hm hv ?_ hn hdb)
  exact PyProof.Rows.callWith_builtin1 (thn (ha pos pins s σ H _ I h) fun us s1 ⟨vs, H1, I1, r1, q1⟩ => hc pins s1 σ H1 vs us Q I1 r1 q1) he hpl
/-- T(e, ..), T a built-in type -/
theorem pe_callTy (hc : CallR X (.type T) r) (hg : Gl X x) (hm : X.mg x = none) (hv : bootBuiltins x = some (.type T)) (ha : PA X (e :: es) t) (hn : x ≠ "__name__" := by decide) (hdb : (x == ("__debug__" : Str)) = false := by decide)
    (he : starEach (e :: es) X.env = (false, eval e X.env) :: starEach es X.env := by rfl) (hpl : (backTo pos (starEach es X.env)).any (·.1) = false := by rfl) : PE X (.Call (.Name x p) (e :: es) [] pos) (tCB r t) := by
  intro pins s σ H Q I h
  refine wpAny_Call_Name_kw (ld_blt I hg hm hv ?_ hn hdb)
  exact PyProof.Rows.callWith_type1 (thn (ha pos pins s σ H _ I h) fun us s1 ⟨vs, H1, I1, r1, q1⟩ => hc pins s1 σ H1 vs us Q I1 r1 q1) he hpl
end
end L2
namespace HT
open PySem PyProof.Rows
section
open PySem.SeqAt
open PySem.AutoSeq1 (wpAny_loadPart')
open PySem.MeetsSeq PySem.MeetsSeq2 PySem.MeetsSeq3
end
section
variable {prog : Program} {w : World} {A : Around} {E : Value → Shared → Prop} {s : Shared}
/-- a slice's bound as a place among n (d where it is left out) -/
def sIx (n d : Nat) : Option Int → Nat
  | none => d
  | some v => if v < 0 then (v + (n : Int)).toNat else min v.toNat n
end
end HT
namespace L2
open PySem PySem.Spec PyProof.Rows
abbrev TO := St → Hp → (Option Int → Hp → Prop) → Prop
/-- a slice's part (left out, or an int) -/
def PO (X : Cx) (e : Option Expr) (t : TO) : Prop :=
  ∀ (pins : List (Addr × Obj)) (s : Shared) (σ : St) (H : Hp) (Q : Option Int → Hp → Prop), Inv X pins σ H s → t σ H Q →
    wpAny (model X.prog X.w) X.A (evalPart e X.env) (fun u s' => ∃ o H', Inv X pins σ H' s' ∧ IsPart u o ∧ Q o H') X.xe s
def tNoPart : TO := fun _ H Q => Q none H
def tPart (t : TE) : TO := fun σ H Q => t σ H fun x H1 => ∃ i, x = .int i ∧ Q (some i) H1
section
variable {X : Cx} {e : Expr} {te : TE} {lo hi : Option Expr} {tl th : TO} {pos p2 : Pos}
theorem po_none : PO X none tNoPart := by
  intro pins s σ H Q I h
  rw [evalPart_none]
  exact wpAny_pure ⟨none, H, I, .none, h⟩
theorem po_some (h : PE X e te) : PO X (some e) (tPart te) := by
  intro pins s σ H Q I hw
  rw [evalPart_some]
  refine thn (h pins s σ H _ I hw) fun u s1 ⟨x, H1, I1, r1, q1⟩ => ?_
  obtain ⟨i, rfl, q⟩ := q1
  obtain ⟨t, rfl⟩ := r1
  exact ⟨some i, H1, I1, .int i t, q⟩
/-- what a slice of a value is, by values: the slice object stands at sl -/
def SlR (X : Cx) (r : V → Option Int → Option Int → Hp → VK → Prop) : Prop :=
  ∀ (pins : List (Addr × Obj)) (s : Shared) (σ : St) (H : Hp) (x : V) (v vl vu : Value) (lo hi : Option Int) (sl : Addr) (Q : VK), Inv X pins σ H s → RelV x v → s.heap.IsSliceOf sl vl vu .none → IsPart vl lo → IsPart vu hi → r x lo hi H Q →
    ∃ T id, typeLookup (.type T) "__getitem__" = pure (some (.builtin id)) ∧ s.TypeIs v T ∧ wpAny (model X.prog X.w) X.A (getItem v (.ref sl)) (EP X pins σ Q) X.xe s
theorem SlR.or {r r' : V → Option Int → Option Int → Hp → VK → Prop} (h : SlR X r) (h' : SlR X r') : SlR X (fun x lo hi H Q => r x lo hi H Q ∨ r' x lo hi H Q) := by
  intro pins s σ H x v vl vu lo hi sl Q I rx hs pl pu q
  rcases q with q | q
  · exact h pins s σ H x v vl vu lo hi sl Q I rx hs pl pu q
  · exact h' pins s σ H x v vl vu lo hi sl Q I rx hs pl pu q
def tSl (r : V → Option Int → Option Int → Hp → VK → Prop) (te : TE) (tl th : TO) : TE := fun σ H Q => te σ H fun x H1 => tl σ H1 fun l H2 => th σ H2 fun u H3 => r x l u H3 Q
/-- a[lo:hi], any a -/
theorem pe_slice {r : V → Option Int → Option Int → Hp → VK → Prop} (hr : SlR X r) (he : PE X e te) (hl : PO X lo tl) (hu : PO X hi th) : PE X (.Subscript e (.Slice lo hi none p2) pos) (tSl r te tl th) := by
  intro pins s σ H Q I h
  refine Subscript_ (thn (he pins s σ H _ I h) fun v s1 ⟨x, H1, I1, r1, q1⟩ => ?_)
  refine wpAny_Slice (thn (hl pins s1 σ H1 _ I1 q1) fun vl s2 ⟨l, H2, I2, pl, q2⟩ => thn (hu pins s2 σ H2 _ I2 q2) fun vu s3 ⟨u, H3, I3, pu, q3⟩ => ?_)
  rw [evalPart_none]
  refine wpAny_pure ?_
  have I4 : Inv X pins σ H3 { s3 with heap := s3.heap.push { cls := .type "slice", data := .fields #[vl, vu, .none] } } := I3.kept (t' := s3.toks) fun b ob q => Heap.get?_push_of_some _ q
  obtain ⟨T, id, hT, ht, hg⟩ := hr pins { s3 with heap := s3.heap.push { cls := .type "slice", data := .fields #[vl, vu, .none] } } σ H3 x v vl vu l u s3.heap.objs.size Q I4 r1 (Heap.IsSliceOf.new ..) pl pu q3
  show wpAny (model X.prog X.w) X.A (subscriptTail e (.Slice lo hi none p2) v (.ref s3.heap.objs.size)) (EP X pins σ Q) X.xe { s3 with heap := s3.heap.push { cls := .type "slice", data := .fields #[vl, vu, .none] } }
  exact tail_any (ops := [.ref s3.heap.objs.size, v]) ht hT hg (by with_unfolding_all rfl)
/-- the items of xs[lo:hi] -/
def cutV (xs : List V) (lo hi : Option Int) : List V := (xs.drop (HT.sIx xs.length 0 lo)).take (HT.sIx xs.length xs.length hi - HT.sIx xs.length 0 lo)
theorem cutV_length (xs : List V) (lo hi : Option Int) : (cutV xs lo hi).length ≤ xs.length := by
  unfold cutV
  rw [List.length_take, List.length_drop]
  omega
end
end L2
namespace L2
open PySem PySem.Spec PyProof.Rows
/-- the place that an index of any sign means -/
def ixN (n : Nat) (i : Int) : Option Nat := if 0 ≤ i then (if i < n then some i.toNat else none) else if -(n : Int) ≤ i then some (i + n).toNat else none
def atI {α : Type} (xs : List α) (i : Int) : Option α := (ixN xs.length i).bind fun j => xs[j]?
theorem ixN_seq {n : Nat} {i : Int} {j : Nat} (h : ixN n i = some j) : seqIndex? i n = some j ∧ j < n ∧ -(n : Int) ≤ i ∧ i < n := by
  unfold ixN at h
  by_cases h0 : 0 ≤ i
  · rw [if_pos h0] at h
    by_cases h1 : i < n
    · rw [if_pos h1] at h
      have e : i.toNat = j := Option.some.inj h
      exact ⟨by rw [seqIndex_of h0 h1, e], by omega, by omega, h1⟩
    · rw [if_neg h1] at h; cases h
  · rw [if_neg h0] at h
    by_cases h1 : -(n : Int) ≤ i
    · rw [if_pos h1] at h
      have e : (i + n).toNat = j := Option.some.inj h
      exact ⟨by rw [seqIndex_neg (by omega) h1, e], by omega, h1, by omega⟩
    · rw [if_neg h1] at h; cases h
theorem atI_get {α : Type} {xs : List α} {i : Int} {v : α} (h : atI xs i = some v) : ∃ j, seqIndex? i xs.length = some j ∧ xs[j]? = some v ∧ j < xs.length ∧ -(xs.length : Int) ≤ i ∧ i < xs.length := by
  unfold atI at h
  cases e : ixN xs.length i with
  | none => rw [e] at h; cases h
  | some j =>
    rw [e] at h
    obtain ⟨h1, h2, h3, h4⟩ := ixN_seq e
    exact ⟨j, h1, h, h2, h3, h4⟩
theorem atI_nat {α : Type} {xs : List α} {j : Nat} {v : α} (h : xs[j]? = some v) : atI xs (j : Int) = some v := by
  have hj : j < xs.length := (List.getElem?_eq_some_iff.mp h).1
  have e : ixN xs.length (j : Int) = some j := by
    unfold ixN
    rw [if_pos (by omega), if_pos (by omega)]; simp
  unfold atI; rw [e]; exact h
theorem atI_last {α : Type} (xs : List α) (v : α) : atI (xs ++ [v]) (-1) = some v := by
  have hl : (xs ++ [v]).length = xs.length + 1 := by simp
  have e : ixN (xs ++ [v]).length (-1) = some xs.length := by
    unfold ixN
    rw [hl, if_neg (by decide), if_pos (by omega)]
    congr 1
    omega
  unfold atI
  rw [e]
  show (xs ++ [v])[xs.length]? = some v
  simp
/-- what stands as an index of a plain subscript -/
def PlainIx (b : Expr) : Prop := ∀ o i, subscripted b false o i = operate [o, i] (getItem o i)
/-- a subscript by values -/
def IxR (X : Cx) (r : R2) : Prop :=
  ∀ (value slice : Expr) (pins : List (Addr × Obj)) (s : Shared) (σ : St) (H : Hp) (x y : V) (v u : Value) (Q : VK), Inv X pins σ H s → RelV x v → RelV y u → r x y H Q →
    subscripted slice false v u = operate [v, u] (getItem v u) → wpAny (model X.prog X.w) X.A (subscriptTail value slice v u) (EP X pins σ Q) X.xe s
/-- a call of a builtin's method by values: the receiver, the arguments -/
def MtR (X : Cx) (id : String) (r : V → List V → Hp → VK → Prop) : Prop :=
  ∀ (pins : List (Addr × Obj)) (s : Shared) (σ : St) (H : Hp) (x : V) (xs : List V) (v : Value) (us : List Value) (Q : VK), Inv X pins σ H s → RelV x v → Vals xs us → r x xs H Q →
    wpAny (model X.prog X.w) X.A (call (.builtin id) (v :: us)) (EP X pins σ Q) X.xe s
section
variable {X : Cx} {a b : Expr} {ta tb : TE} {pos : Pos}
theorem IxR.or {r r' : R2} (h : IxR X r) (h' : IxR X r') : IxR X (fun x y H Q => r x y H Q ∨ r' x y H Q) := by
  intro value slice pins s σ H x y v u Q I rx ry q hs
  rcases q with q | q
  · exact h value slice pins s σ H x y v u Q I rx ry q hs
  · exact h' value slice pins s σ H x y v u Q I rx ry q hs
theorem MtR.or {id : String} {r r' : V → List V → Hp → VK → Prop} (h : MtR X id r) (h' : MtR X id r') : MtR X id (fun x xs H Q => r x xs H Q ∨ r' x xs H Q) := by
  intro pins s σ H x xs v us Q I rx rs q
  rcases q with q | q
  · exact h pins s σ H x xs v us Q I rx rs q
  · exact h' pins s σ H x xs v us Q I rx rs q
/-- a[b] -/
theorem pe_ix {r : R2} (hr : IxR X r) (ha : PE X a ta) (hb : PE X b tb) (hs : PlainIx b) : PE X (.Subscript a b pos) (tOp r ta tb) := by
  intro pins s σ H Q I h
  exact Subscript_ (binT ha hb I h fun v u s2 x y H2 I2 rx ry q => hr a b pins s2 σ H2 x y v u Q I2 rx ry q (hs _ _))
def rIxL (K : PySem.W.Frag) : R2 := fun x y H Q => ∃ p xs i v, x = .ref p ∧ y = .int i ∧ SqL K H p xs ∧ atI xs i = some v ∧ Q v H
theorem ix_list : IxR X (rIxL X.K) := by
  intro value slice pins s σ H x y v u Q I rx ry h hs
  obtain ⟨p, xs, i, z, rfl, rfl, hq, he, q⟩ := h
  cases rx
  obtain ⟨t, rfl⟩ := ry
  obtain ⟨its, r, pl, hz⟩ := I.list hq
  obtain ⟨j, h1, h2, h3, h4, h5⟩ := atI_get he
  obtain ⟨w, ew, rw'⟩ := r.get h2
  have hl := r.length
  have hn := line63
  have fin : EP X pins σ Q w s := ⟨z, H, I, rw', q⟩
  by_cases h0 : 0 ≤ i
  · have hj : i.toNat = j := by
      rw [seqIndex_of h0 h5] at h1
      exact Option.some.inj h1
    exact item_listR pl.isList h0 (by omega) (by rw [hj]; simpa using ew) fin hs
  · have hj : (i + (its.toArray.size : Int)).toNat = j := by
      rw [seqIndex_neg (by omega) h4] at h1
      rw [List.size_toArray, ← hl]
      exact Option.some.inj h1
    exact subscriptTail_builtinR (x := w) pl.isList.typeIs slot_list_getitem.lookup
      (wpAny_getItem_list_neg (Q := fun r s' => r = w ∧ EP X pins σ Q r s') pl.isList (by omega) (by rw [List.size_toArray] <;> omega) (by omega) (by rw [hj]; simpa using ew) ⟨rfl, fin⟩) hs
theorem Inv.lst {pins : List (Addr × Obj)} {σ : St} {H : Hp} {s : Shared} {p : Addr} {xs : List V} (I : Inv X pins σ H s) (h : H p = some (.lst xs)) :
    ∃ (its : List Value) (n : Nat), Vals xs its ∧ s.heap.get? p = some { cls := .type "list", data := .seq its.toArray n } ∧ xs.length ≤ sizeLine := by
  obtain ⟨z, its, n, r, e⟩ := I.hok p _ h
  exact ⟨its, n, r, e, z⟩
theorem slice_bounds (lo hi : Option Int) (n : Nat) : (sliceBounds lo hi none n).1 = ((HT.sIx n 0 lo : Nat) : Int) ∧ (sliceBounds lo hi none n).2.1 = ((HT.sIx n n hi : Nat) : Int) ∧ (sliceBounds lo hi none n).2.2 = 1 := by
  refine ⟨?_, ?_, rfl⟩
  · cases lo with
    | none => simp [sliceBounds, HT.sIx]
    | some i =>
      simp only [sliceBounds, HT.sIx, Option.getD_none, show (1 : Int) > 0 by decide, if_true]
      by_cases h : i < 0
      · simp only [h, if_true] <;> omega
      · simp only [h, if_false] <;> omega
  · cases hi with
    | none => simp [sliceBounds, HT.sIx]
    | some i =>
      simp only [sliceBounds, HT.sIx, Option.getD_none, show (1 : Int) > 0 by decide, if_true]
      by_cases h : i < 0
      · simp only [h, if_true] <;> omega
      · simp only [h, if_false] <;> omega
theorem slicePick_cut (its : List Value) (lo hi : Option Int) : slicePick its.toArray lo hi none = ((its.drop (HT.sIx its.length 0 lo)).take (HT.sIx its.length its.length hi - HT.sIx its.length 0 lo)).toArray := by
  obtain ⟨h1, h2, h3⟩ := slice_bounds lo hi its.toArray.size
  unfold slicePick
  rw [h1, h2, h3]
  simp only [sliceRange_one, pick_run, List.size_toArray] <;> rfl
/-- xs[lo:hi] of a list: a new list -/
def rSlL (K : PySem.W.Frag) : V → Option Int → Option Int → Hp → VK → Prop := fun x lo hi H Q => ∃ a xs, x = .ref a ∧ SqL K H a xs ∧ ∀ p, H p = none → Q (.ref p) (upd H p (.lst (cutV xs lo hi)))
theorem sl_list : SlR X (rSlL X.K) := by
  intro pins s σ H x v vl vu lo hi sl Q I rx hs pl pu h
  obtain ⟨a, xs, rfl, hx, q⟩ := h
  cases rx
  obtain ⟨its, r, ht, hz⟩ := I.list hx
  have hlen := r.length
  refine ⟨"list", _, slot_list_getitem.lookup, ht.isList.typeIs, ?_⟩
  refine wpAny_getItem_list_slice ht.isList hs pl pu .none (by simp) ?_ (by rw [List.size_toArray] <;> omega)
  rw [slicePick_cut, ← hlen]
  refine ⟨.ref s.heap.objs.size, _, I.laid (t' := s.toks) (o := .lst (cutV xs lo hi)) (fun b ob q => Heap.get?_push_of_some _ q) (Nat.le_refl _) ?_, rfl, q _ (I.hok.fresh (Nat.le_refl _))⟩
  exact ⟨Nat.le_trans (cutV_length xs lo hi) hz, _, 0, (r.drop (HT.sIx xs.length 0 lo)).take (HT.sIx xs.length xs.length hi - HT.sIx xs.length 0 lo), Heap.get?_push_size _ rfl⟩
def flatV : V → Bool
  | .non => true
  | .bl _ => true
  | .int _ => true
  | .str _ => true
  | _ => false
/-- == of flat values -/
def eqV : V → V → Bool
  | .non, .non => true
  | .bl a, .bl b => a == b
  | .bl a, .int b => (if a then 1 else 0) == b
  | .int a, .bl b => a == (if b then 1 else 0)
  | .int a, .int b => a == b
  | .str a, .str b => a == b
  | _, _ => false
theorem eqAt_V {A : Around} {s : Shared} {y x : V} {u v : Value} (ry : RelV y u) (rx : RelV x v) (fy : flatV y = true) (fx : flatV x = true) : SeqAt.EqAt A s u v (eqV y x) := by
  cases y with
  | non =>
    cases ry
    cases x with
    | non => cases rx; exact SeqAt.EqAt.same _
    | bl b => cases rx; exact SeqAt.EqAt.none_bool b
    | int b => obtain ⟨t, rfl⟩ := rx; exact SeqAt.EqAt.none_int b t
    | str b => obtain ⟨t, rfl⟩ := rx; exact SeqAt.EqAt.none_str b t
    | _ => exact absurd (show false = true from fx) Bool.false_ne_true
  | bl a =>
    cases ry
    cases x with
    | non => cases rx; exact SeqAt.EqAt.bool_none a
    | bl b => cases rx; exact SeqAt.EqAt.bool_bool a b
    | int b => obtain ⟨t, rfl⟩ := rx; exact SeqAt.EqAt.bool_int a b t
    | str b => obtain ⟨t, rfl⟩ := rx; exact SeqAt.EqAt.bool_str a b t
    | _ => exact absurd (show false = true from fx) Bool.false_ne_true
  | int a =>
    obtain ⟨t', rfl⟩ := ry
    cases x with
    | non => cases rx; exact SeqAt.EqAt.int_none a t'
    | bl b => cases rx; exact SeqAt.EqAt.int_bool a t' b
    | int b => obtain ⟨t, rfl⟩ := rx; exact SeqAt.EqAt.int_int a t' b t
    | str b => obtain ⟨t, rfl⟩ := rx; exact SeqAt.EqAt.int_str a t' b t
    | _ => exact absurd (show false = true from fx) Bool.false_ne_true
  | str a =>
    obtain ⟨t', rfl⟩ := ry
    cases x with
    | non => cases rx; exact SeqAt.EqAt.str_none a t'
    | bl b => cases rx; exact SeqAt.EqAt.str_bool a t' b
    | int b => obtain ⟨t, rfl⟩ := rx; exact SeqAt.EqAt.str_int a t' b t
    | str b => obtain ⟨t, rfl⟩ := rx; exact SeqAt.EqAt.str_str a t' b t
    | _ => exact absurd (show false = true from fx) Bool.false_ne_true
  | _ => exact absurd (show false = true from fy) Bool.false_ne_true
/-- the items' answers, read off the values (a value's own answer does not lean on its token) -/
def eqU (x : V) (u : Value) : Bool := match u with
  | .none => eqV .non x
  | .bool b => eqV (.bl b) x
  | .int i _ => eqV (.int i) x
  | .str z _ => eqV (.str z) x
  | _ => false
theorem eqU_of {x y : V} {u : Value} (r : RelV y u) (f : flatV y = true) : eqU x u = eqV y x := by
  cases y with
  | non => cases r; rfl
  | bl b => cases r; rfl
  | int i => obtain ⟨t, rfl⟩ := r; rfl
  | str z => obtain ⟨t, rfl⟩ := r; rfl
  | _ => exact absurd (show false = true from f) Bool.false_ne_true
theorem any_eqU {x : V} : ∀ {xs : List V} {us : List Value}, Vals xs us → xs.all flatV = true → us.any (eqU x) = xs.any fun y => eqV y x
  | _, _, .nil, _ => rfl
  | y :: xs, u :: us, .cons r t, f => by
    rw [List.all_cons, Bool.and_eq_true] at f
    rw [List.any_cons, List.any_cons, eqU_of r f.1, any_eqU t f.2]
theorem mem_eqAt {A : Around} {s : Shared} {x : V} {v : Value} (rx : RelV x v) (fx : flatV x = true) : ∀ {xs : List V} {us : List Value}, Vals xs us → xs.all flatV = true → ∀ u ∈ us, SeqAt.EqAt A s u v (eqU x u)
  | _, _, .nil, _ => fun u hu => by cases hu
  | y :: xs, u :: us, .cons r t, f => fun u' hu => by
    rw [List.all_cons, Bool.and_eq_true] at f
    rcases List.mem_cons.mp hu with rfl | hu
    · rw [eqU_of r f.1]; exact eqAt_V r rx f.1 fx
    · exact mem_eqAt rx fx t f.2 u' hu
def inV (x : V) (xs : List V) : Bool := xs.any fun y => eqV y x
/-- x in a list or tuple of flat items -/
def rIn (K : PySem.W.Frag) (neg : Bool) : R2 := fun x y H Q => ∃ p xs, y = .ref p ∧ (SqL K H p xs ∨ SqT K H p xs) ∧ flatV x = true ∧ xs.all flatV = true ∧ Q (.bl (if neg then !inV x xs else inV x xs)) H
theorem op_in_seq : OpR X (compareOp .In) (rIn X.K false) := by
  intro pins s σ H x y v u Q I rx ry h
  obtain ⟨p, xs, rfl, hq, fx, fs, q⟩ := h
  cases ry
  rcases hq with hq | hq
  · obtain ⟨its, r, pl, hz⟩ := I.list hq
    refine SeqAt.in_listAt (eqU x) pl.isList (fun w hw => mem_eqAt rx fx r fs w (by simpa using hw)) ⟨.bl _, H, I, rfl, ?_⟩
    rw [show its.toArray.any (eqU x) = its.any (eqU x) by simp, any_eqU r fs]
    exact q
  · obtain ⟨its, r, pl, hz⟩ := I.tuple hq
    refine SeqAt.in_tupleAt (eqU x) pl (fun w hw => mem_eqAt rx fx r fs w (by simpa using hw)) ⟨.bl _, H, I, rfl, ?_⟩
    rw [show its.toArray.any (eqU x) = its.any (eqU x) by simp, any_eqU r fs]
    exact q
theorem op_notIn_seq : OpR X (compareOp .NotIn) (rIn X.K true) := by
  intro pins s σ H x y v u Q I rx ry h
  obtain ⟨p, xs, rfl, hq, fx, fs, q⟩ := h
  cases ry
  rcases hq with hq | hq
  · obtain ⟨its, r, pl, hz⟩ := I.list hq
    refine SeqAt.notIn_listAt (eqU x) pl.isList (fun w hw => mem_eqAt rx fx r fs w (by simpa using hw)) ⟨.bl _, H, I, rfl, ?_⟩
    rw [show its.toArray.any (eqU x) = its.any (eqU x) by simp, any_eqU r fs]
    exact q
  · obtain ⟨its, r, pl, hz⟩ := I.tuple hq
    refine SeqAt.notIn_tupleAt (eqU x) pl (fun w hw => mem_eqAt rx fx r fs w (by simpa using hw)) ⟨.bl _, H, I, rfl, ?_⟩
    rw [show its.toArray.any (eqU x) = its.any (eqU x) by simp, any_eqU r fs]
    exact q
theorem call_len_seq : CallR X (.builtin "len") (fun xs H Q => ∃ p ys, xs = [.ref p] ∧ (SqL X.K H p ys ∨ SqT X.K H p ys) ∧ Q (.int ys.length) H) := by
  intro pins s σ H xs us Q I r h
  obtain ⟨p, ys, rfl, hq, q⟩ := h
  obtain ⟨u, rfl, rx⟩ := vals1 r
  cases rx
  have hn := line63
  rcases hq with hq | hq
  · obtain ⟨its, r', pl, hz⟩ := I.list hq
    have hlen := r'.length
    exact Calls.call_len_list pl.isList (by simp only [List.size_toArray] <;> omega) ⟨.int ys.length, H, I.tok _, ⟨s.toks + 1, by rw [List.size_toArray, hlen]⟩, q⟩
  · obtain ⟨its, r', pl, hz⟩ := I.tuple hq
    have hlen := r'.length
    exact len_tuple pl (by simp only [List.size_toArray] <;> omega) ⟨.int ys.length, H, I.tok _, ⟨s.toks + 1, by rw [List.size_toArray, hlen]⟩, q⟩
theorem CallR.or {f : Value} {r r' : List V → Hp → VK → Prop} (h : CallR X f r) (h' : CallR X f r') : CallR X f (fun xs H Q => r xs H Q ∨ r' xs H Q) := by
  intro pins s σ H xs us Q I rs q
  rcases q with q | q
  · exact h pins s σ H xs us Q I rs q
  · exact h' pins s σ H xs us Q I rs q
theorem call_tuple_of : CallR X (.type "tuple") (fun xs H Q => ∃ p ys, xs = [.ref p] ∧ ((SqL X.K H p ys ∧ ∀ l, H l = none → Q (.ref l) (upd H l (.tup ys))) ∨ (SqT X.K H p ys ∧ Q (.ref p) H))) := by
  intro pins s σ H xs us Q I r h
  obtain ⟨p, ys, rfl, h⟩ := h
  obtain ⟨u, rfl, rx⟩ := vals1 r
  cases rx
  rcases h with ⟨hq, q⟩ | ⟨hq, q⟩
  · obtain ⟨its, r', pl, hz⟩ := I.list hq
    have hlen := r'.length
    refine call_tuple_list pl.isList (fun h' kp => ?_) (by simp only [List.size_toArray] <;> omega)
    have I1 : Inv X pins σ H { s with heap := h' } := I.kept (t' := s.toks) kp
    have I2 : Inv X pins σ (upd H h'.objs.size (.tup ys)) { s with heap := h'.push { cls := .type "tuple", data := .seq its.toArray } } :=
      I1.laid (t' := s.toks) (fun b o e => Heap.get?_push_of_some _ e) (Nat.le_refl _) (show ObjOk X.prog X.w _ _ _ (.tup ys) from ⟨hz, its, r', IsTup.new _ _⟩)
    exact ⟨.ref h'.objs.size, _, I2, rfl, q _ (I1.hok.fresh (Nat.le_refl _))⟩
  · obtain ⟨its, r', pl, hz⟩ := I.tuple hq
    exact call_tuple_same pl ⟨.ref p, H, I, rfl, q⟩
/-- the value is of that builtin type -/
def tyV (K : PySem.W.Frag) (T : String) (x : V) (H : Hp) : Prop := match x with
  | .str _ => T = "str"
  | .int _ => T = "int"
  | .ref p => (T = "list" ∧ ∃ xs, SqL K H p xs) ∨ (T = "tuple" ∧ ∃ o, K.lookup p = some o ∧ o.cls = .type "tuple" ∧ o.dict = none) ∨
      (T = "dict" ∧ ((∃ kvs, H p = some (.dK kvs)) ∨ ∃ kvs, H p = some (.dT kvs))) ∨ (T = "set" ∧ ∃ S n, H p = some (.set S n))
  | _ => False
theorem tyV_is {pins : List (Addr × Obj)} {σ : St} {H : Hp} {s : Shared} {T : String} {x : V} {v : Value} (I : Inv X pins σ H s) (r : RelV x v) (ty : tyV X.K T x H) :
    s.TypeIs v T ∧ ∀ a, v = .ref a → ∃ ob, s.heap.get? a = some ob ∧ ob.dict = none := by
  cases x with
  | str z =>
    obtain ⟨t, rfl⟩ := r
    cases (show T = "str" from ty)
    exact ⟨typeIs_str s z t, fun _ e => nomatch e⟩
  | int i =>
    obtain ⟨t, rfl⟩ := r
    cases (show T = "int" from ty)
    exact ⟨typeIs_int s i t, fun _ e => nomatch e⟩
  | ref p =>
    cases r
    rcases ty with ⟨rfl, xs, hq⟩ | ⟨rfl, o, hk, hc, hd⟩ | ⟨rfl, hk⟩ | ⟨rfl, S, n, hk⟩
    · obtain ⟨its, _, pl, _⟩ := I.list hq
      refine ⟨pl.isList.typeIs, fun a e => ?_⟩
      cases e
      obtain ⟨o, n, e, c, hd, _⟩ := pl
      exact ⟨o, e, hd⟩
    · refine ⟨⟨o, I.kIn p o hk, hc⟩, fun a e => ?_⟩
      cases e
      exact ⟨o, I.kIn _ o hk, hd⟩
    · have z : ∃ o, s.heap.get? p = some o ∧ o.ExactDict := by
        rcases hk with ⟨kvs, hk⟩ | ⟨kvs, hk⟩
        · obtain ⟨_, _, _, _, o, _, _, e, ex, _⟩ := I.hok p _ hk
          exact ⟨o, e, ex⟩
        · obtain ⟨_, _, _, _, o, _, _, e, ex, _⟩ := I.hok p _ hk
          exact ⟨o, e, ex⟩
      obtain ⟨o, e, ex⟩ := z
      refine ⟨⟨o, e, ex.1⟩, fun a e2 => ?_⟩
      cases e2
      exact ⟨o, e, ex.2.1⟩
    · obtain ⟨o, _, _, _, e, ex, _⟩ := I.hok p _ hk
      refine ⟨⟨o, e, ex.1⟩, fun a e2 => ?_⟩
      cases e2
      exact ⟨o, e, ex.2.1⟩
  | _ => exact False.elim ty
def tBM0 (K : PySem.W.Frag) (T : String) (r : V → List V → Hp → VK → Prop) (to : TE) : TE := fun σ H Q => to σ H fun x H1 => tyV K T x H1 ∧ r x [] H1 Q
def tBM (K : PySem.W.Frag) (T : String) (r : V → List V → Hp → VK → Prop) (to : TE) (t : TA) : TE := fun σ H Q => to σ H fun x H1 => tyV K T x H1 ∧ t σ H1 fun xs H2 => r x xs H2 Q
variable {o e : Expr} {es : List Expr} {to : TE} {t : TA} {name : Str} {apos cpos : Pos} {T id : String} {r : V → List V → Hp → VK → Prop}
theorem pe_bm0 (pa : PlainAttrs T) (slot : Slot T name id) (hty : typeOf (.builtin id) = pure (.type "method_descriptor")) (hm : MtR X id r) (ho : PE X o to)
    (hbase : attributeBase o name X.env (eval o X.env) = eval o X.env := by rfl) (hline : (apos.endLine == cpos.line) = true := by rfl) : PE X (.Call (.Attribute o name apos) [] [] cpos) (tBM0 X.K T r to) := by
  intro pins s σ H Q I h
  refine wpAny_Call_method0_late hbase hline (thn (ho pins s σ H _ I h) fun v s1 ⟨x, H1, I1, r1, ty, q1⟩ => ?_)
  obtain ⟨h1, h2⟩ := tyV_is I1 r1 ty
  exact ⟨T, id, pa, slot, hty, h1, h2, Calls.callWith_builtin rfl (PySem.evalArgs_none (hm pins s1 σ H1 x [] v [] Q I1 r1 .nil q1))⟩
theorem pe_bm (pa : PlainAttrs T) (slot : Slot T name id) (hty : typeOf (.builtin id) = pure (.type "method_descriptor")) (hm : MtR X id r) (ho : PE X o to) (ha : PA X (e :: es) t)
    (hbase : attributeBase o name X.env (eval o X.env) = eval o X.env := by rfl)
    (hfew : ((backTo cpos (starEach (e :: es) X.env)).all (fun x => !x.1) && (backToKw cpos (keywordEach [] X.env)).all (fun x => x.1.isSome)
      && decide ((e :: es).length + ([] : List Keyword).length + (if ([] : List Keyword).isEmpty then 0 else 1) < 30)) = true := by rfl)
    (hline : (apos.endLine == cpos.line) = true := by rfl) (hs : starEach (e :: es) X.env = (false, eval e X.env) :: starEach es X.env := by rfl) (hplain : (backTo cpos (starEach es X.env)).any (·.1) = false := by rfl) :
    PE X (.Call (.Attribute o name apos) (e :: es) [] cpos) (tBM X.K T r to t) := by
  intro pins s σ H Q I h
  refine wpAny_Call_method_late hbase hfew hline rfl (thn (ho pins s σ H _ I h) fun v s1 ⟨x, H1, I1, r1, ty, q1⟩ => ?_)
  obtain ⟨h1, h2⟩ := tyV_is I1 r1 ty
  refine ⟨T, id, pa, slot, hty, h1, h2, ?_⟩
  have hA := ha cpos pins s1 σ H1 _ I1 q1
  rw [hs] at hA ⊢
  refine Calls.callWith_builtin (by show (false || (backTo cpos (starEach es X.env)).any (·.1)) = false; rw [hplain] <;> rfl) (Calls.evalArgs_plain ?_)
  exact thn hA fun us s2 ⟨vs, H2, I2, r2, q2⟩ => hm pins s2 σ H2 x vs v us Q I2 r1 r2 q2
/- xs.append(e), list.index on a module's tuple .. are MtR facts of 06m -/
end
end L2
namespace L2
open PySem PySem.Spec PyProof.Rows
def MtM (X : Cx) (id : String) (r : V → List V → Hp → VK → Prop) : Prop :=
  ∀ (pins : List (Addr × Obj)) (s : Shared) (σ : St) (H : Hp) (x : V) (xs : List V) (v : Value) (us : List Value) (Q : VK), Inv X pins σ H s → RelV x v → Vals xs us → r x xs H Q →
    wpAny (model X.prog X.w) X.A (call (.builtin id) (v :: us)) (EP X pins σ Q) X.xe s
theorem Vals.one : ∀ {x : V} {us : List Value}, Vals [x] us → ∃ u, us = [u] ∧ RelV x u
  | _, _, .cons r .nil => ⟨_, rfl, r⟩
theorem Vals.two : ∀ {x y : V} {us : List Value}, Vals [x, y] us → ∃ u v, us = [u, v] ∧ RelV x u ∧ RelV y v
  | _, _, _, .cons r (.cons q .nil) => ⟨_, _, rfl, r, q⟩
theorem Vals.zero : ∀ {us : List Value}, Vals [] us → us = []
  | _, .nil => rfl
theorem Vals.dropLast {xs : List V} {us : List Value} (h : Vals xs us) : Vals xs.dropLast us.dropLast := by
  induction h with
  | nil => exact .nil
  | cons r t ih =>
    cases t with
    | nil => exact .nil
    | cons q t' => exact .cons r ih
theorem Vals.eraseIdx : ∀ {xs : List V} {us : List Value} (i : Nat), Vals xs us → Vals (xs.eraseIdx i) (us.eraseIdx i)
  | _, _, _, .nil => .nil
  | _, _, 0, .cons _ t => t
  | _, _, i + 1, .cons r t => .cons r (Vals.eraseIdx i t)
theorem Vals.reverse {xs : List V} {us : List Value} (h : Vals xs us) : Vals xs.reverse us.reverse := by
  induction h with
  | nil => exact .nil
  | cons r t ih => rw [List.reverse_cons, List.reverse_cons]; exact Vals.append ih (.cons r .nil)
theorem Vals.rep {xs : List V} {us : List Value} (h : Vals xs us) : ∀ k : Nat, Vals (List.replicate k xs).flatten (List.replicate k us).flatten
  | 0 => .nil
  | k + 1 => by
    rw [List.replicate_succ, List.replicate_succ, List.flatten_cons, List.flatten_cons]
    exact Vals.append h (Vals.rep h k)
theorem erase_last {α : Type} (l : List α) : l.eraseIdx (l.length - 1) = l.dropLast := by
  induction l with
  | nil => rfl
  | cons a r ih =>
    cases r with
    | nil => rfl
    | cons b r =>
      have e : (a :: b :: r).length - 1 = ((b :: r).length - 1) + 1 := by
        have h1 : (a :: b :: r).length = r.length + 2 := rfl
        have h2 : (b :: r).length = r.length + 1 := rfl
        omega
      rw [e, List.eraseIdx_cons_succ, ih]
      all_goals rfl
section
variable {X : Cx} {pins : List (Addr × Obj)} {σ : St} {H : Hp} {s : Shared} {l b : Addr} {xs ys zs : List V}
theorem Inv.lset {its its' : List Value} {n : Nat} {f : Array Value → Array Value} {t' : Nat} (I : Inv X pins σ H s) (hH : H l = some (.lst xs))
    (e : s.heap.get? l = some { cls := .type "list", data := .seq its.toArray n }) (hf : f its.toArray = its'.toArray) (hv : Vals ys its') (hz : ys.length ≤ sizeLine) :
    Inv X pins σ (upd H l (.lst ys)) { s with heap := s.heap.update l (Obj.mapSeq f), toks := t' } := by
  have q := PySem.IsL.update e f
  rw [hf] at q
  refine I.write (x := l) (e := l) (by rw [hH]; exact trivial) (.inl rfl) (fun b' u hb hu => (Heap.get?_update_other s.heap (Obj.mapSeq f) (Ne.symm hb)).trans hu) ⟨_, q⟩ ?_
  exact ⟨hz, its', _, hv, q⟩
theorem Inv.lnew {its : List Value} {t' : Nat} (I : Inv X pins σ H s) (hv : Vals ys its) (hz : ys.length ≤ sizeLine) :
    Inv X pins σ (upd H s.heap.objs.size (.lst ys)) { s with heap := s.heap.push { cls := .type "list", data := .seq its.toArray }, toks := t' } :=
  I.laid (fun _ _ q => Heap.get?_push_of_some _ q) (Nat.le_refl _) ⟨hz, its, 0, hv, Heap.get?_push_size _ rfl⟩
theorem Inv.fresh (I : Inv X pins σ H s) : H s.heap.objs.size = none := I.hok.fresh (Nat.le_refl _)
theorem Inv.lstM (I : Inv X pins σ H s) (hH : H l = some (.lst xs)) : xs.length ≤ sizeLine ∧ ∃ (its : List Value) (n : Nat), Vals xs its ∧ xs.length = its.length ∧ s.heap.get? l = some { cls := .type "list", data := .seq its.toArray n } := by
  obtain ⟨z, its, n, r, e⟩ := I.hok l _ hH
  exact ⟨z, its, n, r, r.length, e⟩
end
section
variable {X : Cx}
def rAppend : V → List V → Hp → VK → Prop := fun x vs H Q => ∃ l xs y, x = .ref l ∧ vs = [y] ∧ H l = some (.lst xs) ∧ xs.length < sizeLine ∧ Q .non (upd H l (.lst (xs ++ [y])))
theorem mt_append : MtM X "list.append" rAppend := by
  intro pins s σ H x vs v us Q I rx rv h
  obtain ⟨l, xs, y, rfl, rfl, hH, hz, q⟩ := h
  cases rx
  obtain ⟨u, rfl, ru⟩ := rv.one
  obtain ⟨z, its, n, r, hl, e⟩ := I.lstM hH
  refine call_meets F.slot_list_append ⟨_, e, rfl⟩ F.entry_list_append (F.args_list_append_2 _ _) (PySem.list_append l its.toArray n u (by rw [List.size_toArray]; omega)) ⟨e, ?_⟩
  refine ⟨.non, _, I.lset (its' := its ++ [u]) hH e (by simp) (r.append (.cons ru .nil)) ?_, rfl, q⟩
  rw [List.length_append, List.length_singleton]
  omega
def rPop : V → List V → Hp → VK → Prop := fun x vs H Q => ∃ l xs y, x = .ref l ∧ vs = [] ∧ H l = some (.lst xs) ∧ xs[xs.length - 1]? = some y ∧ Q y (upd H l (.lst xs.dropLast))
theorem mt_pop : MtM X "list.pop" rPop := by
  intro pins s σ H x vs v us Q I rx rv h
  obtain ⟨l, xs, y, rfl, rfl, hH, hy, q⟩ := h
  cases rx
  have hus := rv.zero
  subst hus
  obtain ⟨z, its, n, r, hl, e⟩ := I.lstM hH
  obtain ⟨u, hu, ru⟩ := r.get hy
  have hy' : its.toArray[its.toArray.size - 1]? = some u := by
    show its.toArray[its.length - 1]? = some u
    rw [← Array.getElem?_toList, ← hl]
    exact hu
  refine call_meets F.slot_list_pop ⟨_, e, rfl⟩ F.entry_list_pop (F.args_list_pop_1 _) (MeetsSeq.list_pop_last l its.toArray n u hy' (by rw [List.size_toArray]; omega)) ⟨e, ?_⟩
  refine ⟨y, _, I.lset (its' := its.dropLast) hH e ?_ r.dropLast ?_, ru, q⟩
  · show its.toArray.eraseIdxIfInBounds (its.toArray.size - 1) = its.dropLast.toArray
    rw [List.size_toArray, List.eraseIdxIfInBounds_toArray, erase_last]
  · rw [List.length_dropLast]
    omega
def rCat : R2 := fun x y H Q => ∃ l b xs zs, x = .ref l ∧ y = .ref b ∧ H l = some (.lst xs) ∧ H b = some (.lst zs) ∧ xs.length + zs.length ≤ sizeLine ∧ ∀ p, H p = none → Q (.ref p) (upd H p (.lst (xs ++ zs)))
theorem op_cat : OpR X (binaryOp .Add) rCat := by
  intro pins s σ H x y v u Q I rx ry h
  obtain ⟨l, b, xs, zs, rfl, rfl, hH, hB, hz, q⟩ := h
  cases rx
  cases ry
  obtain ⟨z, its, n, r, hl, e⟩ := I.lstM hH
  obtain ⟨z2, its2, n2, r2, hl2, e2⟩ := I.lstM hB
  refine PySem.P.add_list e e2 ?_ (by rw [List.size_toArray, List.size_toArray]; omega)
  have ea : its.toArray ++ its2.toArray = (its ++ its2).toArray := by simp
  rw [ea]
  exact ⟨.ref _, _, I.lnew (t' := s.toks) (r.append r2) (by rw [List.length_append]; omega), rfl, q _ I.fresh⟩
end
section
variable {prog : Program} {w : World} {A : Around} {E : Value → Shared → Prop} {s : Shared}
set_option maxRecDepth 100000 in
end
end L2
namespace L2
open PySem PySem.Spec PyProof.Rows
theorem Vals.ints : ∀ {ns : List Int} {us : List Value}, Vals (ns.map V.int) us → IntsAre us ns
  | [], us, h => by
    rw [List.map_nil] at h
    cases h
    exact IntsAre.nil
  | n :: ns, us, h => by
    rw [List.map_cons] at h
    cases h with
    | cons r t =>
      obtain ⟨k, rfl⟩ := r
      exact IntsAre.cons n k (Vals.ints t)
section
variable {X : Cx}
theorem flat_at {ys : List V} (f : ys.all flatV = true) {j : Nat} {z : V} (h : ys[j]? = some z) : flatV z = true := List.all_eq_true.mp f z (List.mem_of_getElem? h)
end
mutual
inductive Dp (K : PySem.W.Frag) (H : Hp) : V → PyData → Prop
  | non : Dp K H .non .none
  | bl (b : Bool) : Dp K H (.bl b) (.bool b)
  | int (i : Int) : Dp K H (.int i) (.int i)
  | str (x : Str) : Dp K H (.str x) (.str x)
  | lst {a : Addr} {xs : List V} {ds : List PyData} : SqL K H a xs → DpAll K H xs ds → Dp K H (.ref a) (.list ds)
  | tup {a : Addr} {xs : List V} {ds : List PyData} : SqT K H a xs → DpAll K H xs ds → Dp K H (.ref a) (.tuple ds)
inductive DpAll (K : PySem.W.Frag) (H : Hp) : List V → List PyData → Prop
  | nil : DpAll K H [] []
  | cons {v : V} {vs : List V} {d : PyData} {ds : List PyData} : Dp K H v d → DpAll K H vs ds → DpAll K H (v :: vs) (d :: ds)
end
section
variable {X : Cx} {pins : List (Addr × Obj)} {σ : St} {H : Hp} {s : Shared}
mutual
theorem Dp.reads (I : Inv X pins σ H s) : ∀ (d : PyData) (v : V) (u : Value), Dp X.K H v d → RelV v u → ∃ as, Reads s.heap u d as
  | .none, _, _, h, r => by
    cases h
    cases r
    exact ⟨_, Reads.none⟩
  | .bool b, _, _, h, r => by
    cases h
    cases r
    exact ⟨_, Reads.bool b⟩
  | .int i, _, _, h, r => by
    cases h
    obtain ⟨t, rfl⟩ := r
    exact ⟨_, Reads.int i t⟩
  | .str x, _, _, h, r => by
    cases h
    obtain ⟨t, rfl⟩ := r
    exact ⟨_, Reads.str x t⟩
  | .list ds, _, _, h, r => by
    cases h with
    | lst hs ha =>
      cases r
      obtain ⟨its, rv, ⟨o, n, ho, hc, _, hd⟩, _⟩ := I.list hs
      obtain ⟨as, hr⟩ := Dp.readsAll I ds _ its ha rv
      exact ⟨_, Reads.list ho hc hd hr⟩
  | .tuple ds, _, _, h, r => by
    cases h with
    | tup hs ha =>
      cases r
      obtain ⟨its, rv, ⟨o, ho, hc, n, hd⟩, _⟩ := I.tuple hs
      obtain ⟨as, hr⟩ := Dp.readsAll I ds _ its ha rv
      exact ⟨_, Reads.tuple ho hc hd hr⟩
  | .dict _, _, _, h, _ => by cases h
theorem Dp.readsAll (I : Inv X pins σ H s) : ∀ (ds : List PyData) (vs : List V) (us : List Value), DpAll X.K H vs ds → Vals vs us → ∃ as, ReadsAll s.heap us ds as
  | [], _, _, h, r => by
    cases h
    cases r
    exact ⟨_, ReadsAll.nil⟩
  | d :: ds, _, _, h, r => by
    cases h with
    | cons h1 h2 =>
      cases r with
      | cons r1 r2 =>
        obtain ⟨as, q1⟩ := Dp.reads I d _ _ h1 r1
        obtain ⟨bs, q2⟩ := Dp.readsAll I ds _ _ h2 r2
        exact ⟨_, ReadsAll.cons q1 q2⟩
end
end
end L2
namespace L2
open PySem PySem.Spec PyProof.Rows
section
variable {κ : Type} [DecidableEq κ]
def valV (kvs : List (κ × V)) (k : κ) : Option V := (kvs.find? fun kv => decide (kv.1 = k)).map (·.2)
/-- in its place, or at the end -/
def putK (kvs : List (κ × V)) (k : κ) (v : V) : List (κ × V) :=
  if (kvs.any fun kv => decide (kv.1 = k)) = true then kvs.map (fun kv => if kv.1 = k then (kv.1, v) else kv) else kvs ++ [(k, v)]
def dropK (kvs : List (κ × V)) (k : κ) : List (κ × V) := kvs.filter fun kv => decide (kv.1 ≠ k)
theorem valV_nil {k : κ} : valV ([] : List (κ × V)) k = none := rfl
theorem valV_pos {p : κ × V} {r : List (κ × V)} {k : κ} (e : p.1 = k) : valV (p :: r) k = some p.2 := by simp [valV, List.find?_cons, e]
theorem valV_neg {p : κ × V} {r : List (κ × V)} {k : κ} (e : ¬ p.1 = k) : valV (p :: r) k = valV r k := by simp [valV, List.find?_cons, e]
theorem valV_any (k : κ) : ∀ kvs : List (κ × V), (kvs.any fun kv => decide (kv.1 = k)) = (valV kvs k).isSome
  | [] => rfl
  | p :: r => by
    rw [List.any_cons]
    by_cases e : p.1 = k
    · simp only [valV_pos e, decide_eq_true e, Bool.true_or, Option.isSome_some]
    · rw [valV_neg e, decide_eq_false e, Bool.false_or]; exact valV_any k r
theorem valV_map (k j : κ) (y : V) : ∀ kvs : List (κ × V), valV (kvs.map fun kv => if kv.1 = k then (kv.1, y) else kv) j = (valV kvs j).map fun x => if j = k then y else x
  | [] => rfl
  | p :: r => by
    have ih := valV_map k j y r
    rw [List.map_cons]
    by_cases h : p.1 = k
    · rw [if_pos h]
      by_cases e : p.1 = j
      · rw [valV_pos (p := (p.1, y)) e, valV_pos e, Option.map_some, if_pos (e.symm.trans h)]
      · rw [valV_neg (p := (p.1, y)) e, valV_neg e, ih]
    · rw [if_neg h]
      by_cases e : p.1 = j
      · rw [valV_pos (p := p) e, valV_pos e, Option.map_some, if_neg (fun z => h (e.trans z))]
      · rw [valV_neg (p := p) e, valV_neg e, ih]
theorem valV_snoc (k j : κ) (y : V) : ∀ kvs : List (κ × V), valV kvs k = none → valV (kvs ++ [(k, y)]) j = if j = k then some y else valV kvs j
  | [], _ => by
    by_cases e : k = j
    · rw [if_pos e.symm]; exact valV_pos (p := (k, y)) e
    · rw [if_neg (fun z => e z.symm)]; exact valV_neg (p := (k, y)) e
  | p :: r, hn => by
    rw [List.cons_append]
    have hk : ¬ p.1 = k := fun z => by rw [valV_pos z] at hn; cases hn
    rw [valV_neg hk] at hn
    have ih := valV_snoc k j y r hn
    by_cases e : p.1 = j
    · rw [valV_pos e, valV_pos e, if_neg (fun z => hk (e.trans z))]
    · rw [valV_neg e, valV_neg e, ih]
theorem valV_put (kvs : List (κ × V)) (k j : κ) (y : V) : valV (putK kvs k y) j = if j = k then some y else valV kvs j := by
  unfold putK
  by_cases a : (kvs.any fun kv => decide (kv.1 = k)) = true
  · rw [if_pos a, valV_map]
    rw [valV_any] at a
    by_cases e : j = k
    · obtain ⟨x, hx⟩ := Option.isSome_iff_exists.mp a
      rw [if_pos e, e, hx, Option.map_some, if_pos rfl]
    · rw [if_neg e]
      cases valV kvs j with
      | none => rfl
      | some x => rw [Option.map_some, if_neg e]
  · rw [if_neg a]
    refine valV_snoc k j y kvs ?_
    rw [valV_any] at a
    cases q : valV kvs k with
    | none => rfl
    | some x => rw [q] at a; exact (a rfl).elim
theorem length_putK (kvs : List (κ × V)) (k : κ) (v : V) : (putK kvs k v).length ≤ kvs.length + 1 := by
  unfold putK
  split
  · rw [List.length_map]; omega
  · rw [List.length_append, List.length_cons, List.length_nil]; omega
theorem putK_new {kvs : List (κ × V)} {k : κ} (v : V) (h : valV kvs k = none) : putK kvs k v = kvs ++ [(k, v)] := by
  unfold putK
  rw [valV_any, h]
  exact if_neg (by decide)
theorem RelO.isSome_eq {o : Option V} {u : Option Value} (r : RelO o u) : o.isSome = u.isSome := by
  cases o with
  | none => cases u with
    | none => rfl
    | some _ => exact (show False from r).elim
  | some _ => cases u with
    | none => exact (show False from r).elim
    | some _ => rfl
theorem RelO.getD {o : Option V} {u : Option Value} {d : V} {d' : Value} (r : RelO o u) (rd : RelV d d') : RelV (o.getD d) (u.getD d') := by
  cases o with
  | none => cases u with
    | none => exact rd
    | some _ => exact (show False from r).elim
  | some _ => cases u with
    | none => exact (show False from r).elim
    | some _ => exact r
/-- raw tables of the same keys -/
theorem KV.val {kvs : List (κ × V)} {vs : List (κ × Value)} (r : KV kvs vs) (k : κ) : RelO (valV kvs k) (valueAt vs k) := by
  unfold KV at r
  induction r with
  | nil => exact True.intro
  | @cons p q ps qs h t ih =>
    obtain ⟨h1, h2⟩ := h
    by_cases e : p.1 = k
    · have e' : q.1 = k := h1.symm.trans e
      have b : valueAt (q :: qs) k = some q.2 := by simp [valueAt, List.find?_cons, e']
      rw [valV_pos e, b]; exact h2
    · have e' : ¬ q.1 = k := fun z => e (h1.trans z)
      have b : valueAt (q :: qs) k = valueAt qs k := by simp [valueAt, List.find?_cons, e']
      rw [valV_neg e, b]; exact ih
theorem KV.any {kvs : List (κ × V)} {vs : List (κ × Value)} (r : KV kvs vs) (k : κ) : (kvs.any fun kv => decide (kv.1 = k)) = vs.any fun kv => decide (kv.1 = k) := by
  unfold KV at r
  induction r with
  | nil => rfl
  | cons h t ih => rw [List.any_cons, List.any_cons, ih, h.1]
theorem KV.repl {kvs : List (κ × V)} {vs : List (κ × Value)} (r : KV kvs vs) (k : κ) {y : V} {u : Value} (ry : RelV y u) :
    KV (kvs.map fun kv => if kv.1 = k then (kv.1, y) else kv) (vs.map fun kv => if kv.1 = k then (kv.1, u) else kv) := by
  unfold KV at r ⊢
  induction r with
  | nil => exact .nil
  | @cons p q ps qs h t ih =>
    rw [List.map_cons, List.map_cons]
    refine .cons ?_ ih
    obtain ⟨h1, h2⟩ := h
    by_cases e : p.1 = k
    · rw [if_pos e, if_pos (h1.symm.trans e)]; exact ⟨h1, ry⟩
    · rw [if_neg e, if_neg (fun z => e (h1.trans z))]; exact ⟨h1, h2⟩
theorem KV.put {kvs : List (κ × V)} {vs : List (κ × Value)} (r : KV kvs vs) (k : κ) {y : V} {u : Value} (ry : RelV y u) : KV (putK kvs k y) (stored vs k u) := by
  unfold putK stored
  rw [r.any k]
  by_cases e : (vs.any fun kv => decide (kv.1 = k)) = true
  · rw [if_pos e, if_pos e]; exact r.repl k ry
  · rw [if_neg e, if_neg e]; exact Paired.snoc r ⟨rfl, ry⟩
theorem KV.drop {kvs : List (κ × V)} {vs : List (κ × Value)} (r : KV kvs vs) (k : κ) : KV (dropK kvs k) (without vs k) := by
  unfold KV at r ⊢
  unfold dropK without
  induction r with
  | nil => exact .nil
  | @cons p q ps qs h t ih =>
    obtain ⟨h1, h2⟩ := h
    rw [List.filter_cons, List.filter_cons]
    by_cases e : p.1 = k
    · have a : ¬ decide (p.1 ≠ k) = true := by simp [e]
      have b : ¬ decide (q.1 ≠ k) = true := by simp [h1.symm.trans e]
      rw [if_neg a, if_neg b]; exact ih
    · have e' : ¬ q.1 = k := fun z => e (h1.trans z)
      have a : decide (p.1 ≠ k) = true := by simp [e]
      have b : decide (q.1 ≠ k) = true := by simp [e']
      rw [if_pos a, if_pos b]; exact .cons ⟨h1, h2⟩ ih
theorem KV.keys {kvs : List (κ × V)} {vs : List (κ × Value)} (r : KV kvs vs) : kvs.map (·.1) = vs.map (·.1) := by
  unfold KV at r
  induction r with
  | nil => rfl
  | cons h t ih => rw [List.map_cons, List.map_cons, ih, h.1]
theorem KV.length {kvs : List (κ × V)} {vs : List (κ × Value)} (r : KV kvs vs) : kvs.length = vs.length := Paired.length r
end
theorem kV_is {P : Program} {w : World} {k : Key} {u : Value} (r : RelV (kV k) u) : (mixKind P w).is k u = true := by
  cases k with
  | inl i => obtain ⟨t, e⟩ := (show ∃ t, u = Value.int i t from r); subst e; exact mixKind_int P w i t
  | inr x => obtain ⟨t, e⟩ := (show ∃ t, u = Value.str x t from r); subst e; exact mixKind_str P w x t
theorem items_are {P : Program} {w : World} : ∀ {ks : List Key} {us : List Value}, Vals (ks.map kV) us → ItemsAre (mixKind P w) ks us
  | [], _, r => by rw [List.map_nil] at r; cases r; exact .nil
  | k :: ks, _, r => by
    rw [List.map_cons] at r
    cases r with
    | cons h t => exact .cons (kV_is h) (items_are t)
/-- raw entries of a dict with tuple keys -/
abbrev KT (H : Hp) : List (List Key × V) → List (List Key × Addr × Value) → Prop := Paired fun p q => p.1 = q.1 ∧ H q.2.1 = some (.tup (p.1.map kV)) ∧ RelV p.2 q.2.2
theorem KT.val {H : Hp} {kvs : List (List Key × V)} {xs : List (List Key × Addr × Value)} (r : KT H kvs xs) (k : List Key) : RelO (valV kvs k) ((atKey xs k).map (·.2)) := by
  induction r with
  | nil => exact True.intro
  | @cons p q ps qs h t ih =>
    obtain ⟨h1, _, h2⟩ := h
    by_cases e : p.1 = k
    · have e' : q.1 = k := h1.symm.trans e
      have b : atKey (q :: qs) k = some q.2 := by simp [atKey, List.find?_cons, e']
      rw [valV_pos e, b]; exact h2
    · have e' : ¬ q.1 = k := fun z => e (h1.trans z)
      have b : atKey (q :: qs) k = atKey qs k := by simp [atKey, List.find?_cons, e']
      rw [valV_neg e, b]; exact ih
theorem KT.repl {H : Hp} {kvs : List (List Key × V)} {xs : List (List Key × Addr × Value)} (r : KT H kvs xs) (k : List Key) {y : V} {u : Value} (ry : RelV y u) :
    KT H (kvs.map fun kv => if kv.1 = k then (kv.1, y) else kv) (xs.map (putAt k u)) := by
  induction r with
  | nil => exact .nil
  | @cons p q ps qs h t ih =>
    rw [List.map_cons, List.map_cons]
    refine .cons ?_ ih
    obtain ⟨h1, h2, h3⟩ := h
    unfold putAt
    by_cases e : p.1 = k
    · rw [if_pos e, if_pos (h1.symm.trans e)]; exact ⟨h1, h2, ry⟩
    · rw [if_neg e, if_neg (fun z => e (h1.trans z))]; exact ⟨h1, h2, h3⟩
theorem KT.put {H : Hp} {kvs : List (List Key × V)} {xs : List (List Key × Addr × Value)} (r : KT H kvs xs) (k : List Key) {b : Addr} {y : V} {u : Value} (hb : H b = some (.tup (k.map kV))) (ry : RelV y u) :
    KT H (putK kvs k y) (storedH xs k b u) := by
  have e : (kvs.any fun kv => decide (kv.1 = k)) = (atKey xs k).isSome := by
    rw [valV_any, (r.val k).isSome_eq, Option.isSome_map]
  unfold putK storedH
  rw [e]
  by_cases q : (atKey xs k).isSome = true
  · rw [if_pos q, if_pos q]; exact r.repl k ry
  · rw [if_neg q, if_neg q]; exact Paired.snoc r ⟨rfl, hb, ry⟩
theorem KT.keeps {H H' : Hp} {kvs : List (List Key × V)} {xs : List (List Key × Addr × Value)} (r : KT H kvs xs) (ht : ∀ b ys, H b = some (.tup ys) → H' b = some (.tup ys)) : KT H' kvs xs :=
  Paired.mapP r fun _ _ z => ⟨z.1, ht _ _ z.2.1, z.2.2⟩
section
variable {P : Program} {w : World} {H : Hp} {h : Heap} {a : Addr}
theorem rd_of {u : HO} (ok : HOk P w H h) (e : Rd H a u) : ObjOk P w H h a u := e.ok ok
theorem dk_rd {kvs : List (Key × V)} (ok : HOk P w H h) (e : Rd H a (.dK kvs)) : kvs.length ≤ sizeLine ∧ (a == sysModules) = false ∧ ∃ vs, KV kvs vs ∧ h.DictOf (mixKind P w) a vs :=
  show ObjOk P w H h a (.dK kvs) from rd_of ok e
theorem dk_of {kvs : List (Key × V)} (ok : HOk P w H h) (e : H a = some (.dK kvs)) : kvs.length ≤ sizeLine ∧ (a == sysModules) = false ∧ ∃ vs, KV kvs vs ∧ h.DictOf (mixKind P w) a vs := dk_rd ok (.inl e)
/-- a tracked tuple of ints and texts is a key -/
theorem key_of {ks : List Key} (ok : HOk P w H h) (e : H a = some (.tup (ks.map kV))) : (tupleKind (mixKind P w)).is h ks a := by
  obtain ⟨_, its, r, o, h1, h2, n, h3⟩ := (show ObjOk P w H h a (.tup (ks.map kV)) from ok a _ e)
  exact ⟨o, its.toArray, n, h1, h2, h3, by simpa using items_are r⟩
theorem dt_rd {kvs : List (List Key × V)} (ok : HOk P w H h) (e : Rd H a (.dT kvs)) : kvs.length ≤ sizeLine ∧ (a == sysModules) = false ∧
    ∃ xs, KT H kvs xs ∧ h.DictOfH (tupleKind (mixKind P w)) a xs := by
  obtain ⟨z, y, xs, r, o, es, ep, h1, h2, h3, h4, h5⟩ := (show ObjOk P w H h a (.dT kvs) from rd_of ok e)
  refine ⟨z, y, xs, r, o, es, ep, h1, h2, h3, h4, fun x hx => ?_, h5⟩
  have all : ∀ {l : List (List Key × V)} {m : List (List Key × Addr × Value)}, KT H l m → ∀ x ∈ m, (tupleKind (mixKind P w)).is h x.1 x.2.1 := by
    intro l m q
    induction q with
    | nil => intro x hx; exact nomatch hx
    | @cons p q ps qs hq t ih =>
      intro x hx
      rcases List.mem_cons.mp hx with e | hx
      · subst e
        exact key_of ok (by rw [← hq.1]; exact hq.2.1)
      · exact ih x hx
  exact all r x hx
theorem dt_of {kvs : List (List Key × V)} (ok : HOk P w H h) (e : H a = some (.dT kvs)) : kvs.length ≤ sizeLine ∧ (a == sysModules) = false ∧
    ∃ xs, KT H kvs xs ∧ h.DictOfH (tupleKind (mixKind P w)) a xs := dt_rd ok (.inl e)
end
/-- what the dict at a holds at the key y -/
def DGet (H : Hp) (a : Addr) (y : V) (r : Option V) : Prop :=
  (∃ kvs k, Rd H a (.dK kvs) ∧ y = kV k ∧ r = valV kvs k) ∨ ∃ kvs k b, Rd H a (.dT kvs) ∧ y = .ref b ∧ H b = some (.tup (k.map kV)) ∧ r = valV kvs k
/-- the heap behind a[y] = v -/
def DPut (H : Hp) (a : Addr) (y v : V) (H' : Hp) : Prop :=
  (∃ kvs k, H a = some (.dK kvs) ∧ y = kV k ∧ kvs.length < sizeLine ∧ H' = upd H a (.dK (putK kvs k v))) ∨
  ∃ kvs k b, H a = some (.dT kvs) ∧ y = .ref b ∧ H b = some (.tup (k.map kV)) ∧ kvs.length < sizeLine ∧ H' = upd H a (.dT (putK kvs k v))
theorem DGet.k {H : Hp} {a : Addr} {kvs : List (Key × V)} {k : Key} (e : H a = some (.dK kvs)) : DGet H a (kV k) (valV kvs k) := .inl ⟨kvs, k, .inl e, rfl, rfl⟩
theorem DGet.t {H : Hp} {a b : Addr} {kvs : List (List Key × V)} {k : List Key} (e : H a = some (.dT kvs)) (eb : H b = some (.tup (k.map kV))) : DGet H a (.ref b) (valV kvs k) := .inr ⟨kvs, k, b, .inl e, rfl, eb, rfl⟩
theorem DPut.k {H : Hp} {a : Addr} {kvs : List (Key × V)} {k : Key} {v : V} (e : H a = some (.dK kvs)) (hl : kvs.length < sizeLine) : DPut H a (kV k) v (upd H a (.dK (putK kvs k v))) := .inl ⟨kvs, k, e, rfl, hl, rfl⟩
theorem DPut.t {H : Hp} {a b : Addr} {kvs : List (List Key × V)} {k : List Key} {v : V} (e : H a = some (.dT kvs)) (eb : H b = some (.tup (k.map kV))) (hl : kvs.length < sizeLine) :
    DPut H a (.ref b) v (upd H a (.dT (putK kvs k v))) := .inr ⟨kvs, k, b, e, rfl, eb, hl, rfl⟩
section
variable {X : Cx} {pins : List (Addr × Obj)} {σ : St} {H : Hp} {s : Shared} {a : Addr} {y v : V} {u r : Value} {o : Option V} {A : Around} {E : Value → Shared → Prop}
theorem Inv.big (I : Inv X pins σ H s) : sysModules < s.heap.objs.size := by
  have h : mainGlobals < s.heap.objs.size := (I.mod.glob.keeps I.bk).lt
  exact Nat.lt_trans (by decide) h
/-- y in d -/
theorem d_in {Q : Value → Shared → Prop} (hu : A.units + 1 < cLine) (I : Inv X pins σ H s) (g : DGet H a y o) (ry : RelV y u) (h : ∀ s', Inv X pins σ H s' → Q (.bool o.isSome) s') :
    wpAny (model X.prog X.w) A (compareOp .In u (.ref a)) Q E s := by
  rcases g with ⟨kvs, k, e, ey, l⟩ | ⟨kvs, k, b, e, ey, eb, l⟩
  · subst ey
    obtain ⟨z, hd, vs, rel, dd⟩ := dk_rd I.hok e
    refine wpAny_in_of (kV_is ry) hd dd.mapOf ?_
    rw [← (rel.val k).isSome_eq, ← l]
    exact h _ (I.tok _)
  · subst ey
    cases (show u = Value.ref b from ry)
    obtain ⟨z, hd, xs, rel, dd⟩ := dt_rd I.hok e
    refine wpAny_in_heap (tupleKind_room_in1 hu) (key_of I.hok eb) hd dd ?_
    have q := (rel.val k).isSome_eq
    rw [Option.isSome_map] at q
    rw [← q, ← l]
    exact h _ (I.tok _)
/-- a dict's object is replaced -/
theorem d_write {h' : Heap} {t' : Nat} {ob : HO} (I : Inv X pins σ H s) (mu : Mut (H a)) (hs : Heap.SameBut a s.heap h') (he : ∃ q, h'.get? a = some q) (new : ObjOk X.prog X.w (upd H a ob) h' a ob) :
    Inv X pins σ (upd H a ob) { s with heap := h', toks := t' } :=
  I.write (x := a) (e := a) mu (.inl rfl) (fun b q hb z => (hs.2 b hb).trans z) he new
theorem dk_new {P : Program} {w : World} {H' : Hp} {h' : Heap} {kvs : List (Key × V)} {vs : List (Key × Value)} (z : kvs.length ≤ sizeLine) (hd : (a == sysModules) = false) (rel : KV kvs vs) (dd : h'.DictOf (mixKind P w) a vs) :
    ObjOk P w H' h' a (.dK kvs) := ⟨z, hd, vs, rel, dd⟩
/-- d[y] = v -/
theorem d_setItem {H' : Hp} {Q : Unit → Shared → Prop} (hu : A.units + 1 < cLine) (I : Inv X pins σ H s) (g : DPut H a y v H') (ry : RelV y u) (rv : RelV v r) (h : ∀ s', Inv X pins σ H' s' → Q () s') :
    wpAny (model X.prog X.w) A (setItem (.ref a) u r) Q E s := by
  rcases g with ⟨kvs, k, e, ey, l, eH⟩ | ⟨kvs, k, b, e, ey, eb, l, eH⟩
  · subst ey eH
    obtain ⟨z, hd, vs, rel, dd⟩ := dk_of I.hok e
    have hz : vs.length ≤ sizeLine := by rw [← rel.length]; exact z
    have hl : (putK kvs k v).length ≤ sizeLine := by have := length_putK kvs k v; omega
    refine wpAny_setItem_pairs (hsz := hz) (kV_is ry) dd fun h' dd' hs => h _ ?_
    have he : ∃ q, h'.get? a = some q := let ⟨q, _, _, hq, _⟩ := dd'; ⟨q, hq⟩
    exact d_write I (by rw [e]; exact True.intro) hs he (dk_new hl hd (rel.put k rv) dd')
  · subst ey eH
    cases (show u = Value.ref b from ry)
    obtain ⟨z, hd, xs, rel, dd⟩ := dt_of I.hok e
    have hz : xs.length ≤ sizeLine := by rw [← Paired.length rel]; exact z
    have hl : (putK kvs k v).length ≤ sizeLine := by have := length_putK kvs k v; omega
    refine wpAny_setItem_heap (hsz := hz) (tupleKind_room_in1 hu) (key_of I.hok eb) dd fun h' dd' hs => h _ ?_
    obtain ⟨q, es, ep, hq, h2, h3, h4, _, h5⟩ := dd'
    refine d_write I (by rw [e]; exact True.intro) hs ⟨q, hq⟩ ⟨hl, hd, _, (rel.put k eb rv).keeps fun c ys ec => ?_, q, es, ep, hq, h2, h3, h4, h5⟩
    rw [upd_ne (ne_of ec e (fun z => nomatch z))]
    exact ec
end
section
variable {X : Cx} {pins : List (Addr × Obj)} {σ : St} {H : Hp} {s : Shared} {a : Addr} {kvs : List (Key × V)} {k : Key} {u : Value} {A : Around} {E : Value → Shared → Prop}
/-- len(d) -/
theorem d_len {Q : Value → Shared → Prop} (I : Inv X pins σ H s) (e : Rd H a (.dK kvs)) (h : ∀ t s', Inv X pins σ H s' → Q (.int kvs.length t) s') : wpAny (model X.prog X.w) A (call (.builtin "len") [.ref a]) Q E s := by
  obtain ⟨z, hd, vs, rel, dd⟩ := dk_rd I.hok e
  refine call_len_dict hd dd (by rw [← rel.length]; rw [sizeLine_eq] at z; omega) ?_
  rw [← rel.length]
  exact h _ _ (I.tok _)
end
/-- d[y] -/
def tDGet (td ty : TE) : TE := fun σ H Q => td σ H fun x H1 => ty σ H1 fun y H2 => ∃ a v, x = .ref a ∧ DGet H2 a y (some v) ∧ Q v H2
/-- y in d, y not in d -/
def tDIn (ty td : TE) : TE := fun σ H Q => ty σ H fun y H1 => td σ H1 fun x H2 => ∃ a o, x = .ref a ∧ DGet H2 a y o ∧ Q (.bl o.isSome) H2
/-- d[y] = v -/
def sDPut (td ty tv : TE) : TS := fun D σ H => tv σ H fun v H1 => td σ H1 fun x H2 => ty σ H2 fun y H3 => ∃ a H4, x = .ref a ∧ DPut H3 a y v H4 ∧ D.nx σ H4
section
variable {X : Cx} {o i e value : Expr} {pos pos' tpos : Pos} {td ty tv : TE}
theorem pc_din (hu : X.A.units + 1 < cLine) (hi : PE X i ty) (ho : PE X o td) : PC X .In i o (tDIn ty td) := by
  intro pins s σ H Q I h
  refine thn (hi pins s σ H _ I h) fun iv s1 ⟨y, H1, I1, ry, q1⟩ => thn (ho pins s1 σ H1 _ I1 q1) fun u s2 ⟨x, H2, I2, rx, a, ov, ex, g, q2⟩ => ?_
  subst ex
  obtain rfl : u = Value.ref a := rx
  exact d_in hu I2 g ry fun s3 I3 => ⟨.bl ov.isSome, H2, I3, rfl, q2⟩
theorem ps_dput (hu : X.A.units + 1 < cLine) (ho : PE X o td) (hi : PE X i ty) (hv : PE X value tv) (hs : swapsWith value (some (.Subscript o i pos')) pos.line X.env = pure false) :
    PS X (.Assign [.Subscript o i pos'] value pos) (sDPut td ty tv) := by
  intro pins s σ H D I h
  refine wpAny_Assign_Subscript (thn (hv pins s σ H _ I h) fun r s1 ⟨v, H1, I1, rv, q1⟩ => thn (ho pins s1 σ H1 _ I1 q1) fun u s2 ⟨x, H2, I2, rx, q2⟩ => thn (hi pins s2 σ H2 _ I2 q2) fun iv s3 ⟨y, H3, I3, ry, a, H4, ex, g, q3⟩ => ?_) hs
  subst ex
  obtain rfl : u = Value.ref a := rx
  exact d_setItem hu I3 g ry rv fun s4 I4 => ⟨σ, H4, I4, q3⟩
end
theorem dk_empty {P : Program} {w : World} {H : Hp} (h : Heap) (hb : sysModules < h.objs.size) : ObjOk P w H (h.push { cls := .type "dict", data := .dict #[] }) h.objs.size (.dK []) :=
  ⟨Nat.zero_le _, beq_eq_false_iff_ne.mpr (Ne.symm (Nat.ne_of_lt hb)), [], .nil, Heap.DictOf.new h⟩
/-- {}, to be a dict of the kind that is wanted -/
def tDNewK : TE := fun _ H Q => ∀ p, H p = none → Q (.ref p) (upd H p (.dK []))
section
variable {X : Cx} {pos : Pos}
theorem pe_dnewK : PE X (.Dict [] [] pos) tDNewK := fun pins s σ H Q I h =>
  wpAny_Dict_empty ⟨.ref s.heap.objs.size, _, I.laid (a := s.heap.objs.size) (o := .dK []) (t' := s.toks) (fun _ _ q => Heap.get?_push_of_some _ q) (Nat.le_refl _) (dk_empty s.heap I.big), rfl, h _ (I.hok.fresh (Nat.le_refl _))⟩
end
end L2
namespace L2
open PySem PySem.Spec PyProof.Rows
section
variable {X : Cx} {pins : List (Addr × Obj)} {σ : St} {H : Hp} {s : Shared} {h' : Heap}
/-- .. and one new object is laid -/
theorem Inv.turnedNew {t' : Nat} {ch : List Addr} {T : Addr} {ob : HO} (I : Inv X pins σ H s) (k : ∀ b o, b ∉ ch → s.heap.get? b = some o → h'.get? b = some o) (hf : ∀ b ∈ ch, FpOk X pins H b) (hT : s.heap.objs.size ≤ T)
    (new : ObjOk X.prog X.w (upd H T ob) h' T ob) : Inv X pins σ (upd H T ob) { s with heap := h', toks := t' } := by
  have hn : H T = none := I.hok.fresh hT
  have nit : ∀ b u, H b = some u → b ∉ ch := fun b u e z => by
    have q := (hf b z).1
    rw [q] at e; cases e
  refine I.step (g' := s.gens) (d' := s.drawn) (ch := ch) (fun b hb => ⟨(hf b hb).2.2.2.1, (hf b hb).2.1, (hf b hb).2.2.2.2.1, (hf b hb).2.2.2.2.2⟩) (fun b o _ _ hc e _ => k b o hc e) (fun b o _ _ hc e _ => ⟨o.slots, k b o hc e⟩)
    (fun b o _ e n => ?_) (fun b o hc e => ⟨o, k b o hc e⟩) (fun b xs e => ?_) (fun b o u e => ?_) (fun b ps e => ⟨#[], ?_⟩) (fun m hm => ?_) (fun b u e => ?_) I.bare
  · rw [upd_ne (Nat.ne_of_lt (Nat.lt_of_lt_of_le (Heap.lt_size e) hT))]; exact n
  · rw [upd_ne (ne_of_none e hn)]; exact e
  · rw [upd_ne (ne_of_none e hn)]; exact e
  · rw [upd_ne (ne_of_none e hn), e]; simp
  · obtain ⟨o, es, ep, ho, r⟩ := hm
    exact ⟨o, es, ep, k _ o (fun z => (hf _ z).2.1 rfl) ho, r⟩
  · by_cases hb : b = T
    · subst hb
      rw [upd_same] at e
      cases e
      exact new
    · rw [upd_ne hb] at e
      refine (I.hok b u e).stay (fun c v hc q => k c v ?_ q) (fun c q => by rw [upd_ne (ne_of_none q hn)]; exact q) fun c xs q => by rw [upd_ne (ne_of_none q hn)]; exact q
      rcases hc with z | z
      · rw [z]; exact nit b u e
      · exact nit c _ z
end
/-- range(i, j, c): small bounds, n items -/
def RgC (i j c : Int) (n : Nat) : Prop := c ≠ 0 ∧ c.natAbs < 1073741824 ∧ Builtin.Range.small i j c = true ∧ Builtin.Range.rangeSize i j c = n
theorem RgC.neg {i j : Int} (ha : -(2 ^ 62) ≤ i) (ha' : i < 2 ^ 62) (hb : -(2 ^ 62) ≤ j) (hb' : j < 2 ^ 62) : RgC i j (-1) (i - j).toNat :=
  ⟨by decide, by decide, PySem.W.small_down ha ha' hb hb', PySem.W.rangeSize_downNat i j⟩
/-- the list at a as it stands at each turn, each item in a new pair -/
def Ite (K : PySem.W.Frag) (a : Addr) : It :=
  ⟨fun i H => ∃ (xs : List V) (x : V), SqL K H a xs ∧ xs[i]? = some x, fun i H v H' => ∃ T x, v = .ref T ∧ H T = none ∧ H' = upd H T (.tup [.int (i : Nat), x]) ∧ ∀ xs, SqL K H a xs → xs[i]? = some x, fun i H => ∃ xs : List V, SqL K H a xs ∧ xs.length ≤ i⟩
theorem turn_enum {P : Program} {w : World} {K : PySem.W.Frag} {elts : List Expr} {kk : Nat} {tpos : Pos} (a e it : Addr) :
    Turn P w K (.Tuple elts kk tpos) (Ite K a) [e, it] e (fun i h => (∃ old, IsEnum h e it ((i : Nat) : Int) old) ∧ h.IsListIter it a i ∧ e ≠ it) where
  mem := by simp
  obj := fun i h st b hb => by
    obtain ⟨⟨old, he⟩, ⟨o, ho, hc, hd⟩, _⟩ := st
    have e' : b = e ∨ b = it := by simpa using hb
    rcases e' with z | z
    · rw [z]; exact ⟨_, he, fun v q => nomatch q⟩
    · rw [z]; exact ⟨o, ho, fun v q => by rw [hd] at q; cases q⟩
  keep := fun i h h' st k => let ⟨⟨old, he⟩, hi, hne⟩ := st; ⟨⟨old, k e (by simp) _ he⟩, hi.at fun o q => k it (by simp) o q, hne⟩
  item := by
    intro X hP hw hK hc i pins s σ H E I hf st hg
    subst hP hw hK
    obtain ⟨⟨old, he⟩, hit, hne⟩ := st
    obtain ⟨xs, x, hq, hx⟩ := hg
    obtain ⟨its, rv, p, hz⟩ := I.list hq
    obtain ⟨u, hu, ru⟩ := rv.get hx
    have hel : e < s.heap.objs.size := Heap.lt_size he
    have hil : it < s.heap.objs.size := by obtain ⟨_, q, _⟩ := hit; exact Heap.lt_size q
    refine wpAny_pyNext_enum_item he hit p.isList (x := u) (by simpa using hu) hne fun h' ho hit' hT hsz hk => ?_
    refine ⟨_, rfl, wpAny_letOwnedTupleGo_enum (s := { s with heap := h', toks := s.toks + 1 }) ho fun h'' he' sb => ?_⟩
    have hT2 : h''.get? s.heap.objs.size = some { cls := .type "tuple", data := .seq #[.int i s.toks, u] } := (sb.2 _ (Nat.ne_of_gt hel)).trans hT
    have new : ObjOk X.prog X.w (upd H s.heap.objs.size (.tup [.int (i : Nat), x])) h'' s.heap.objs.size (.tup [.int (i : Nat), x]) :=
      ⟨by show 2 ≤ sizeLine; decide, [.int i s.toks, u], .cons ⟨_, rfl⟩ (.cons ru .nil), ⟨_, hT2, rfl, _, rfl⟩⟩
    have I1 : Inv X pins σ (upd H s.heap.objs.size (.tup [.int (i : Nat), x])) { s with heap := h'', toks := s.toks + 1 } :=
      I.turnedNew (ch := [e, it]) (fun b ob hb q => (sb.2 b (fun z => hb (by simp [z]))).trans (hk b ob (fun z => hb (by simp [z])) (fun z => hb (by simp [z])) q)) hf (Nat.le_refl _) new
    refine ⟨.ref s.heap.objs.size, _, I1, rfl, ⟨_, x, rfl, I.hok.fresh (Nat.le_refl _), rfl, fun ys hy => by rw [I.list_inj hy hq]; exact hx⟩, ⟨⟨u, ?_⟩, hit'.at fun o q => (sb.2 it (Ne.symm hne)).trans q, hne⟩, fun b hb => ?_⟩
    · have e1 : ((i + 1 : Nat) : Int) = (i : Int) + 1 := by omega
      rw [e1]; exact he'
    · have hb' : b < s.heap.objs.size := by
        have e' : b = e ∨ b = it := by simpa using hb
        rcases e' with z | z
        · rw [z]; exact hel
        · rw [z]; exact hil
      rw [upd_ne (Nat.ne_of_lt hb')]
      exact (hf b hb).1
  done := by
    intro X hP hw hK hc i pins s σ H E I hf st hg
    subst hP hw hK
    obtain ⟨⟨old, he⟩, hit, hne⟩ := st
    obtain ⟨xs, hq, hx⟩ := hg
    obtain ⟨its, rv, p, hz⟩ := I.list hq
    obtain ⟨f0, f1, f2, f3, f4, f5⟩ := hf it (by simp)
    have hl := rv.length
    exact wpAny_pyNext_enum_end (I.ok.hd hc) he hit p.isList (by simp; omega) fun h' eb => ⟨rfl, I.turned (t' := s.toks) (fun b o hb q => eb b o hb q) f0 f1 f3 f4 f5⟩
  self := fun A i s Q E st h => let ⟨⟨_, he⟩, _⟩ := st; wpAny_pyIter_enum he h
def iEnum (K : PySem.W.Frag) (ta : TA) : TI := fun σ H R => ta σ H fun vs H1 => ∃ a xs, vs = [.ref a] ∧ SqL K H1 a xs ∧ R (Ite K a) H1
theorem pi_enum {X : Cx} {e : Expr} {ta : TA} {p pos tpos : Pos} {elts : List Expr} {kk : Nat} (hg : Gl X "enumerate") (hm : X.mg "enumerate" = none) (ha : PA X [e] ta) (hs : starEach [e] X.env = [(false, eval e X.env)] := by rfl) :
    PI X (.Tuple elts kk tpos) (.Call (.Name "enumerate" p) [e] [] pos) (iEnum X.K ta) := by
  intro pins s σ H R I h
  refine Call_ (ld_blt I hg hm boot_enumerate (PyProof.Rows.callWith_type1 (thn (ha pos pins s σ H _ I h) fun us s1 ⟨vs, H1, I1, r1, q1⟩ => ?_) hs rfl))
  obtain ⟨a, xs, ex, hq, q⟩ := q1
  subst ex
  cases r1 with
  | cons r rr =>
    cases rr
    cases r
    obtain ⟨its, rv, p', hz⟩ := I1.list hq
    refine call_enumerate_list p'.isList fun h' he hit hsz hk => wpAny_pyIter_enum he ?_
    have I2 : Inv X pins σ H1 { s1 with heap := h' } := I1.kept (t' := s1.toks) hk
    refine ⟨s1.heap.objs.size + 1, [s1.heap.objs.size + 1, s1.heap.objs.size], _, _, H1, rfl, I2, turn_enum a (s1.heap.objs.size + 1) s1.heap.objs.size, ⟨⟨.none, he⟩, hit, Nat.succ_ne_self _⟩, fun b hb => ?_, q⟩
    have e' : b = s1.heap.objs.size + 1 ∨ b = s1.heap.objs.size := by simpa using hb
    have hle : s1.heap.objs.size ≤ b := by
      rcases e' with z | z
      · rw [z]; exact Nat.le_add_right _ _
      · rw [z]; exact Nat.le_refl _
    exact I1.fpOk hle (I1.hok.fresh hle)
end L2
section 
end 
section 
namespace TL
open PySem PySem.Builtin PySem.Builtin.Str PySem.StrLaws
abbrev tl (x : Str) : List Nat := x.cps.toList
/-- S stands at the head of l -/
def pre (S l : List Nat) : Bool := l.take S.length == S
/-- what stands before the first S, and behind it -/
def par (S : List Nat) : List Nat → List Nat → Option (List Nat × List Nat)
  | _, [] => none
  | acc, c :: r => if pre S (c :: r) = true then some (acc, (c :: r).drop S.length) else par S (acc ++ [c]) r
end TL
end 
namespace L2
open PySem PySem.Spec PyProof.Rows
theorem IsPart.raw {v : Value} {o : Option Int} (p : IsPart v o) : ∃ l : Option (Int × Tok), v = partValue l ∧ l.map (·.1) = o := by
  cases p with
  | none => exact ⟨none, rfl, rfl⟩
  | int i t => exact ⟨some (i, t), rfl, rfl⟩
end L2
namespace L2
open PySem PySem.Spec PyProof.Rows
/-- the j-th statement of a class's body -/
def inClass (s : Stmt) (j : Nat) : Stmt := match s with
  | .ClassDef _ _ _ body _ _ _ _ _ _ _ => body.getD j (.Pass ⟨0, 0, 0, 0⟩)
  | _ => .Pass ⟨0, 0, 0, 0⟩
def defArgs (s : Stmt) : Arguments := match s with
  | .FunctionDef _ a _ _ _ _ _ _ _ _ => a
  | _ => { posonlyargs := [], args := [], vararg := none, kwonlyargs := [], kw_defaults := [], kwarg := none, defaults := [] }
def defBody (s : Stmt) : List Stmt := match s with
  | .FunctionDef _ _ b _ _ _ _ _ _ _ => b
  | _ => []
def defScope (s : Stmt) : Scope := match s with
  | .FunctionDef _ _ _ _ _ _ sc _ _ _ => sc
  | _ => { kind := .function, names := [], isGenerator := false, isCoroutine := false }
abbrev CX0 : CXT := fun _ _ _ _ _ _ => False
abbrev E0 : XK := fun _ _ _ => False
structure Fun (K : PySem.W.Frag) (x qual : Str) (st : Stmt) (f : Addr) (fd : FuncData) : Prop where
  ex : ∃ (oc : Value) (od : Option Addr) (kV doc pm : Value) (an : Option Addr) (cdv ct : Value) (osl : Array (Option Value)),
    fd = PySem.W.fnOf x qual (defArgs st) (defBody st) (defScope st) .none kV doc pm an cdv ct ∧ K.lookup f = some ⟨oc, od, .func fd, osl⟩ ∧ PySem.W.codeIn K cdv qual = true
  kp : PySem.W.keepIn K (.ref f) = true
section
variable {P : Program} {w : World} {K : PySem.W.Frag} {mg : Str → Option Value} {base : Heap}
/-- THE RULE for a def: its body as a term of rules, and the reading of that term -/
theorem Fun.ok {x qual : Str} {st : Stmt} {f : Addr} {fd : FuncData} {N ps : List Str} {k : Nat} {sp : Sp} (F : Fun K x qual st f fd) (S : FnScope N ps (defScope st)) (len : ∀ vs H Q E, sp vs H Q E → vs.length = ps.length)
    (hbody : ∀ (cdv : Value) (A : Around) (outer : List Env) (s : Shared) (H : Hp) (vs : List V) (Q : VK) (E : XK), Room k (A.deeper (envOfC qual (defScope st) s.heap.objs.size f cdv)) → sp vs H Q E →
      ∃ t, PSs (cxOf CX0 P w K mg base N qual (defScope st) f cdv A outer s H E).nox (defBody st) t ∧ t { nx := fun _ H' => Q .non H', rt := Q } (start N vs) H) : FnOk P w K mg base CX0 (k + 1) f fd ps sp := by
  obtain ⟨oc, od, kV, doc, pm, an, cdv, ct, osl, rfl, lk, hcd⟩ := F.ex
  refine fn_of lk hcd S len fun A outer s H vs Q E hr hsp => ?_
  obtain ⟨t, h, q⟩ := hbody cdv A outer s H vs Q E hr hsp
  exact ⟨t, h.nox, q⟩
/-- how its arguments bind (no defaults): h is «fun _ _ _ _ _ _ us hl => match us, hl with | [_, _], _ => rfl», one _ a parameter -/
theorem Fun.binds {x qual : Str} {st : Stmt} {f : Addr} {fd : FuncData} {ps : List Str} (F : Fun K x qual st f fd)
    (h : ∀ (kV doc pm : Value) (an : Option Addr) (cdv ct : Value) (us : List Value), us.length = ps.length → bindArgs (PySem.W.fnOf x qual (defArgs st) (defBody st) (defScope st) .none kV doc pm an cdv ct) ⟨us, []⟩ = pure (ps.zip us)) : Binds K fd ps [] := by
  obtain ⟨oc, od, kV, doc, pm, an, cdv, ct, osl, rfl, lk, hcd⟩ := F.ex
  exact .all (h kV doc pm an cdv ct)
theorem fun_mk {x qual : Str} {st : Stmt} {f : Addr} {oc : Value} {od an : Option Addr} {osl : Array (Option Value)} {kV doc pm cdv ct : Value} (l : K.lookup f = some ⟨oc, od, .func (PySem.W.fnOf x qual (defArgs st) (defBody st) (defScope st) .none kV doc pm an cdv ct), osl⟩)
    (c : PySem.W.codeIn K cdv qual = true) (k : PySem.W.keepIn K (.ref f) = true) : Fun K x qual st f (PySem.W.fnOf x qual (defArgs st) (defBody st) (defScope st) .none kV doc pm an cdv ct) := ⟨⟨oc, od, kV, doc, pm, an, cdv, ct, osl, rfl, l, c⟩, k⟩
end
theorem hu_of {A : Around} {k : Nat} (hr : Room k A) : A.units + 1 < cLine := Nat.lt_of_le_of_lt (Nat.add_le_add_left (by decide : 1 ≤ 64) _) hr.units
theorem small1000 {n : Nat} (h : n ≤ 1000) : n < sizeLine := Nat.lt_of_le_of_lt h (by decide)
section
variable {X : Cx}
theorem pv (i : Nat) {x : Str} {pos : Pos} (hN : X.N[i]? = some x := by rfl) (hv : Vis X.env.scope x := by first | exact Or.inl rfl | exact Or.inr (Or.inl rfl) | exact Or.inr (Or.inr rfl)) (hd : (x == ("__debug__" : Str)) = false := by decide)
    (hcd : (x == ("__classdict__" : Str)) = false := by decide) : PE X (.Name x pos) (tVar i) := pe_var hN hv hd hcd
/-- len of a dict -/
theorem call_lenD : CallR X (.builtin "len") (fun xs H Q => ∃ a kvs, xs = [V.ref a] ∧ H a = some (.dK kvs) ∧ Q (.int kvs.length) H) := by
  intro pins s σ H xs us Q I r h
  obtain ⟨a, kvs, rfl, ha, q⟩ := h
  obtain ⟨u, rfl, ru⟩ := vals1 r
  cases ru
  exact d_len I (.inl ha) fun t s' I' => ⟨.int kvs.length, H, I', ⟨t, rfl⟩, q⟩
end
theorem ite2 {c A B : Prop} [Decidable c] (h1 : c → A) (h2 : ¬ c → B) : if c then A else B := by
  by_cases h : c
  · rw [if_pos h]
    exact h1 h
  · rw [if_neg h]
    exact h2 h
/-- all that was tracked is as it was -/
def Same (H H' : Hp) : Prop := ∀ b o, H b = some o → H' b = some o
theorem Same.refl (H : Hp) : Same H H := fun _ _ h => h
theorem Same.trans {H H1 H2 : Hp} (a : Same H H1) (b : Same H1 H2) : Same H H2 := fun c o h => b c o (a c o h)
theorem Same.free {H H' : Hp} (e : Same H H') {l : Addr} (h : H' l = Option.none) : H l = Option.none := by
  cases q : H l with
  | none => rfl
  | some o =>
    rw [e l o q] at h
    cases h
theorem Same.seq {K : PySem.W.Frag} {H H' : Hp} {a : Addr} {xs : List V} (e : Same H H') (h : SqL K H a xs) : SqL K H' a xs := by
  rcases h with (h | ⟨o, h⟩) | h
  · exact .inl (.inl (e _ _ h))
  · exact .inl (.inr ⟨o, e _ _ h⟩)
  · exact .inr h
section
variable {κ : Type} [DecidableEq κ]
theorem nd_snoc : ∀ {l : List κ} {k : κ}, l.Nodup → ¬ k ∈ l → (l ++ [k]).Nodup
  | [], k, _, _ => by simp
  | a :: r, k, h, hk => by
    obtain ⟨h1, h2⟩ := List.nodup_cons.mp h
    show (a :: (r ++ [k])).Nodup
    refine List.nodup_cons.mpr ⟨fun m => ?_, nd_snoc h2 fun m => hk (List.mem_cons.mpr (Or.inr m))⟩
    rcases List.mem_append.mp m with q | q
    · exact h1 q
    · exact hk (List.mem_cons.mpr (Or.inl (List.mem_singleton.mp q).symm))
end
theorem nd_ix {α : Type} {l : List α} (hN : l.Nodup) {i j : Nat} {x : α} (a : l[i]? = some x) (b : l[j]? = some x) : i = j := by
  obtain ⟨h1, e1⟩ := List.getElem?_eq_some_iff.mp a
  obtain ⟨h2, e2⟩ := List.getElem?_eq_some_iff.mp b
  exact (List.getElem_inj hN).mp (e1.trans e2.symm)
/-- a new instance and its __init__ leave all that was tracked as it was -/
theorem Same.made {H H1 : Hp} {x dx C : Addr} (nx : H x = Option.none) (nd : H dx = Option.none) (k : ∀ b o, (upd (upd H dx (.own x)) x (.ins C dx [])) b = some o → b ≠ x → H1 b = some o) : Same H H1 := fun b o e =>
  k b o (by rw [upd_ne (ne_of_none e nx), upd_ne (ne_of_none e nd)]; exact e) (ne_of_none e nx)
end L2
end
section
set_option Elab.async false
set_option maxRecDepth 100000
namespace L2
open PySem
/-! ### an exception that leaves a frame: which objects change -/
/-- ea: the exception; hd0: the head of its trace ahead, T: behind; F: the frames -/
structure LeftX (h h' : Heap) (F : List Addr) (ea : Addr) (hd0 fl : Value) (T : Addr) (oe : Obj) (vs : Array Value) : Prop where
  keep : ∀ b o, b ∉ F → b ≠ ea → Value.ref b ≠ hd0 → h.get? b = some o → h'.get? b = some o
  slot : ∀ b o, b ∈ F → h.get? b = some o → ∃ sl, h'.get? b = some { o with slots := sl }
  exc : h'.get? ea = some { oe with data := .fields (vs.setIfInBounds 1 (.ref T)) }
  new : h.objs.size ≤ T
  tb : ∃ oT ts, h'.get? T = some oT ∧ oT.data = .fields ts ∧ ts[3]? = some fl
/-- the head of a trace: none yet, or an entry whose frame has been left -/
def HeadX (h : Heap) (ea : Addr) (hd0 : Value) : Prop := hd0 = .none ∨ ∃ T oT ts, hd0 = .ref T ∧ T ≠ ea ∧ h.get? T = some oT ∧ oT.data = .fields ts ∧ ts[3]? = some .none
section
variable {M : Model} {A : Around} {E : Value → Shared → Prop} {s : Shared} {base : Heap} {env : Env} {outer : List Env} {L ea : Addr} {oe : Obj} {vs : Array Value} {hd0 : Value}
theorem obj_fields {o : Obj} {ws : Array Value} (hd : o.data = .fields ws) (f : Array Value → Array Value) : Obj.mapFields f o = { o with data := .fields (f ws) } := by
  obtain ⟨c, d, dt, sl⟩ := o
  cases hd
  rfl
/-- the new entry is laid; h0 is the heap ahead, where the old head's mark may have been wiped already -/
theorem entry_x {h0 : Heap} {hn : Bool} {Q : Unit → Shared → Prop} (hfr : A.frames = some (env :: outer)) (hl : s.heap.FunFrames base (env :: outer)) (hf : env.frame = some L)
    (hz : h0.objs.size = s.heap.objs.size) (h0k : ∀ b o, Value.ref b ≠ hd0 → h0.get? b = some o → s.heap.get? b = some o) (h0s : ∀ b o, b ∈ (env :: outer).filterMap (·.frame) → h0.get? b = some o → s.heap.get? b = some o)
    (he : s.heap.get? ea = some oe) (hd : oe.data = .fields vs) (hsz : 1 < vs.size)
    (hq : ∀ h' T, LeftX h0 h' ((env :: outer).filterMap (·.frame)) ea hd0 (rawInt L) T oe vs → Q () { s with heap := h' }) :
    wpAny M A (do let a ← frameOf env; let pl ← entryPlaceOf L hn; let b ← EntryCells.newEntry hd0 a .none (rawInt L) .none pl; setField (.ref ea) 1 b) Q E s := by
  have nf : ea ∉ (env :: outer).filterMap (·.frame) := fun m => by
    obtain ⟨_, o, q1, q2⟩ := hl.mem m
    rw [he] at q1
    cases q1
    exact q2 vs hd
  refine wpAny_bind (wpAny_frameOf_fun hfr hl hf fun h1 z1 => wpAny_bind (wpAny_entryPlaceOf fun pl hpl => ?_))
  unfold EntryCells.newEntry newFields
  refine wpAny_bind (wpAny_newObj_type ?_ (hpl.sizeOk5 _ _ _ _ _))
  generalize hcs : ([hd0, Value.ref L, .none, rawInt L, .none] ++ (if pl.isEmpty then List.replicate 6 Value.none else pl)).toArray = cs
  have h3 : cs[3]? = some (rawInt L) := by rw [← hcs]; simp
  have e1 : h1.get? ea = some oe := (z1.2.1 ea nf).trans he
  have e2 := Heap.get?_push_of_some (h := h1) { cls := .type "traceback", dict := none, data := .fields cs } e1
  have nT : h1.objs.size ≠ ea := Nat.ne_of_gt (Heap.lt_size e1)
  refine wpAny_setField e2 hd hsz (hq _ h1.objs.size ⟨fun b o bF bE bT q => ?_, fun b o bF q => ?_, ?_, by rw [hz, ← z1.1]; exact Nat.le_refl _, ?_⟩)
  · rw [Heap.get?_update_other _ _ (Ne.symm bE)]
    exact Heap.get?_push_of_some _ ((z1.2.1 b bF).trans (h0k b o bT q))
  · obtain ⟨sl, q2⟩ := z1.2.2 b o (h0s b o bF q)
    have bE : b ≠ ea := fun z => nf (z ▸ bF)
    exact ⟨sl, by rw [Heap.get?_update_other _ _ (Ne.symm bE)]; exact Heap.get?_push_of_some _ q2⟩
  · have q := Heap.get?_update_self (Obj.mapFields (·.setIfInBounds 1 (Value.ref h1.objs.size))) e2 (Obj.isFreed_of_fields (Obj.data_mapFields hd _))
    rw [obj_fields hd] at q
    exact q
  · exact ⟨_, cs, (Heap.get?_update_other _ _ (Ne.symm nT)).trans (Heap.get?_push_size h1 rfl), rfl, h3⟩
/-- noteFrame of an exception whose trace's head is none, or an entry of a frame that was left -/
theorem note_x {Q : Unit → Shared → Prop} (hfr : A.frames = some (env :: outer)) (hl : s.heap.FunFrames base (env :: outer)) (hf : env.frame = some L)
    (he : s.heap.get? ea = some oe) (hd : oe.data = .fields vs) (h1 : vs[1]? = some hd0) (hh : HeadX s.heap ea hd0)
    (hq : ∀ h' T, LeftX s.heap h' ((env :: outer).filterMap (·.frame)) ea hd0 (rawInt L) T oe vs → Q () { s with heap := h' }) : wpAny M A (noteFrame (.ref ea) env) Q E s := by
  have hsz : 1 < vs.size := (Array.getElem?_eq_some_iff.mp h1).1
  unfold noteFrame
  simp only [hf]
  refine wpAny_bind (wpAny_field he hd h1 ?_)
  rcases hh with rfl | ⟨T, oT, ts, rfl, nT, eT, dT, h3⟩
  · rw [if_neg (by decide)]
    exact entry_x hfr hl hf rfl (fun _ _ _ q => q) (fun _ _ _ q => q) he hd hsz hq
  · rw [if_pos (by simp)]
    refine wpAny_bind (wpAny_field eT dT h3 ?_)
    rw [if_neg (by simp [rawInt])]
    refine wpAny_bind (wpAny_setField eT dT (Array.getElem?_eq_some_iff.mp h3).1 ?_)
    have oth : ∀ b, b ≠ T → (s.heap.update T (Obj.mapFields (·.setIfInBounds 3 Value.none))).get? b = s.heap.get? b := fun b z => Heap.get?_update_other _ _ (Ne.symm z)
    have nrec : ∀ b o, s.heap.get? b = some o → (∀ ws, o.data ≠ .fields ws) → b ≠ T := fun b o q n z => by
      rw [z, eT] at q
      cases q
      exact n ts dT
    refine entry_x (h0 := s.heap) hfr (hl.of_keeps fun b o q n => ⟨o, (oth b (nrec b o q n)).trans q, rfl⟩) hf (by rw [Heap.size_after_update]) (fun b o bT q => (oth b fun z => bT (by rw [z])).trans q) (fun b o bF q => ?_)
      ((oth ea (Ne.symm nT)).trans he) hd hsz hq
    obtain ⟨_, o', q1, q2⟩ := hl.mem bF
    exact (oth b (nrec b o' q1 q2)).trans q
/-- setFlight none wipes the mark of the trace's head -/
theorem land_x {h0 : Heap} {F : List Addr} {T : Addr} {fl : Value} {oe0 : Obj} {Q : Unit → Shared → Prop} (hsz : 1 < vs.size) (x : LeftX h0 s.heap F ea hd0 fl T oe0 vs) (lt : ∀ b o, h0.get? b = some o → b ≠ T) (hea : ∃ o, h0.get? ea = some o)
    (hq : ∀ h', LeftX h0 h' F ea hd0 .none T oe0 vs → Q () { s with heap := h' }) : wpAny M A (setFlight (.ref ea) none) Q E s := by
  obtain ⟨oT, ts, eT, dT, h3⟩ := x.tb
  obtain ⟨o1, hea⟩ := hea
  have nT : T ≠ ea := Ne.symm (lt ea o1 hea)
  have z3 : 3 < ts.size := (Array.getElem?_eq_some_iff.mp h3).1
  unfold setFlight
  refine wpAny_bind (wpAny_field x.exc rfl (x := .ref T) (by simp [hsz]) ?_)
  rw [if_pos (by simp)]
  refine wpAny_setField eT dT z3 (hq _ ⟨fun b o bF bE bT q => ?_, fun b o bF q => ?_, ?_, x.new, ?_⟩)
  · rw [Heap.get?_update_other _ _ (Ne.symm (lt b o q))]
    exact x.keep b o bF bE bT q
  · obtain ⟨sl, q2⟩ := x.slot b o bF q
    exact ⟨sl, by rw [Heap.get?_update_other _ _ (Ne.symm (lt b o q))]; exact q2⟩
  · rw [Heap.get?_update_other _ _ nT]
    exact x.exc
  · exact ⟨_, _, Heap.get?_update_self _ eT (Obj.isFreed_of_fields (Obj.data_mapFields dT _)), Obj.data_mapFields dT _, by simp [z3]⟩
theorem lt_of_new {h0 h1 : Heap} {F : List Addr} {T : Addr} {fl : Value} {oe0 : Obj} (x : LeftX h0 h1 F ea hd0 fl T oe0 vs) : ∀ b o, h0.get? b = some o → b ≠ T := fun b o q z => by
  subst z
  exact Nat.lt_irrefl _ (Nat.lt_of_lt_of_le (Heap.lt_size q) x.new)
/-- the frame is left -/
theorem leave_x {Q : Unit → Shared → Prop} (hfr : A.frames = some (env :: outer)) (hl : s.heap.FunFrames base (env :: outer)) (hf : env.frame = some L)
    (he : s.heap.get? ea = some oe) (hd : oe.data = .fields vs) (h1 : vs[1]? = some hd0) (hh : HeadX s.heap ea hd0)
    (hq : ∀ h' T, LeftX s.heap h' ((env :: outer).filterMap (·.frame)) ea hd0 .none T oe vs → Q () { s with heap := h' }) : wpAny M A (leaving env (.ref ea)) Q E s := by
  unfold leaving
  refine wpAny_bind (note_x hfr hl hf he hd h1 hh fun h' T x => ?_)
  exact land_x (s := { s with heap := h' }) (Array.getElem?_eq_some_iff.mp h1).1 x (lt_of_new x) ⟨oe, he⟩ fun h'' y => hq h'' T y
end
end L2
end
section
set_option Elab.async false
set_option maxRecDepth 100000
set_option maxHeartbeats 2000000
namespace L2
open PySem
open Builtin Builtin.ObjectAttr
/-! ### an own exception class under Exception, with an __init__ of its own: made, stored, raised, read -/
abbrev bmX : List Value := [.type "Exception", .type "BaseException", .type "object"]
/-- the class's object -/
def XObj (C N : Addr) (o : Obj) : Prop := ∃ (nm q : Str) (bs : List Value) (sn : List Str) (sub : List Value) (ab : Bool) (col : Option Bool) (dd : Option Addr) (k0 k1 k2 k3 k5 : Option Value),
  o = excClassObj nm q C N bs bmX true sn sub ab col dd k0 k1 k2 k3 k5 "Exception.__new__"
abbrev excO (C : Addr) (dx : Option Addr) (t : Addr) : Obj := { cls := .ref C, dict := dx, data := .fields #[.ref t, .none, .none, .none, .bool false, .none] }
section
variable {prog : Program} {w : World} {A : Around} {E : Value → Shared → Prop} {h : Heap} {g : Array GenState} {d : Drawn} {t : Nat} {os : OsState} {C N x : Addr} {oC : Obj} {mN : Str → Option Value} {name : Str} {v : Value}

theorem raise_x {s : Shared} {env : Env} {y : Sem Value} {Q : Flow → Shared → Prop} (hh : A.handled = none)
    (hy : wpAny (model prog w) A y (fun u s1 => ∃ e dx ta oC, u = .ref e ∧ XObj C N oC ∧ s1.heap.get? C = some oC ∧ s1.heap.get? e = some (excO C dx ta) ∧ E (.ref e) s1) E s) :
    wpAny (model prog w) A (raiseStmt env (some y) none) Q E s := by
  have z1 : (Value.ref C :: bmX).contains (.type "BaseException") = true := by simp
  unfold raiseStmt
  refine wpAny_bind (wpAny_mono hy (fun u s1 z => ?_) fun _ _ q => q)
  obtain ⟨e, dx, ta, oC, rfl, ⟨nm, q, bs, sn, sub, ab, col, dd, k0, k1, k2, k3, k5, rfl⟩, gC, ge, hE⟩ := z
  obtain ⟨hp, g', d', tk, os'⟩ := s1
  repeat (first | (with_reducible refine wpAny_loadPart_at ge ?_) | (with_reducible refine wpAny_loadPart_at gC ?_) | ((with_reducible refine wpAny_isSubtype_exc gC ?_); rw [z1]) | wp_step)
  exact wpAny_raiseNew_none hh hE

/-- x.name = v: the exception has no dict yet -/
theorem sets_x {tk : Tok} {o : Obj} {Q : Fin → Shared → Prop} (xC : XObj C N oC) (gC : h.get? C = some oC) (hn : h.Ns N mN) (n2 : mN name = none) (hB : typeLookup (.type "Exception") name = pure none)
    (gx : h.get? x = some o) (ec : o.cls = .ref C) (ed : o.dict = none) (nc : ∀ c, o.data ≠ .cls c)
    (hq : ∀ h' tk, h'.get? x = some { o with dict := some h.objs.size } → h'.Ns1 h.objs.size (fun y => if y = name then some v else none) →
      (∀ b u, b ≠ x → h.get? b = some u → h'.get? b = some u) → Q (.done (.ret .none)) ⟨h', g, d, tk, os⟩) :
    wpAny (model prog w) A (Builtin.«object.__setattr__» ⟨[.ref x, .str name tk, v], []⟩) Q E ⟨h, g, d, t, os⟩ := by
  obtain ⟨nm, q, bs, sn, sub, ab, col, dd, k0, k1, k2, k3, k5, rfl⟩ := xC
  have SF := PySem.F.store_Exception
  have ps := SF.passes (.ref x)
  unfold Builtin.«object.__setattr__»
  repeat (first | rw [refuse_eq] | (rw [refuseLoop_ref, ps]) | ((with_reducible refine wpAny_loadPart_at gx ?_); rw [ec]) | (with_reducible refine wpAny_mroOf_exc gC ?_) | ((with_reducible refine wpAny_typeLookup_exc gC hn SF.mro hB ?_); rw [n2]) | wp_step)
  rw [ed, if_neg (by simp [typeHasDict])]
  split
  · rename_i z
    cases z
  split
  · rename_i c z
    exact absurd z (nc c)
  have gx1 : (h.push { cls := .type "dict", data := .dict #[] }).get? x = some o := Heap.get?_push_of_some _ gx
  have nx : x ≠ h.objs.size := Nat.ne_of_lt (Heap.lt_size gx)
  refine wpAny_bind (wpAny_alloc' (wpAny_bind (wpAny_update' gx1 (wpAny_pure ?_))))
  generalize hh2 : ((h.push { cls := .type "dict", data := .dict #[] }).update x fun o => { cls := o.cls, dict := some h.objs.size, data := o.data, slots := o.slots }) = h2
  have gd : h2.get? h.objs.size = some { cls := .type "dict", data := .dict #[] } := by
    rw [← hh2]
    exact (Heap.get?_update_ne _ _ _ _ nx.symm).trans (Heap.get?_push_at rfl rfl)
  have gx2 : h2.get? x = some { o with dict := some h.objs.size } := by
    rw [← hh2]
    refine Heap.get?_update_self _ gx1 ?_
    have fr := (Heap.get?_some_iff.mp gx).2
    obtain ⟨oc, od, dt, sl⟩ := o
    cases dt <;> first | rfl | exact fr
  have nsd : h2.Ns h.objs.size (fun _ => none) := ⟨_, #[], _, gd, rfl, fun e he => absurd he (by simp), fun _ => rfl⟩
  show wpAny _ _ (storeInDict h.objs.size (.str name tk) name v) _ _ _
  unfold storeInDict newKeyGuard
  refine wpAny_bind (wpAny_pure (wpAny_bind (wpAny_nsSet1 (Heap.Ns1.of_empty nsd) fun h3 n3 s3 => ?_)))
  obtain ⟨oD, esD, epD, goD, deD, ctD⟩ := n3.count (Within.cons name v Within.nil)
  refine wpAny_bind (wpAny_lookBehind goD (by rw [deD]; exact pastItsLine_dict (Nat.le_trans ctD (by rw [List.length_cons, List.length_nil, sizeLine_eq]; omega))) ?_)
  wp_walk
  refine hq h3 _ ((s3.2 x nx).trans gx2) n3 fun b u nb q => (s3.2 b (Nat.ne_of_lt (Heap.lt_size q))).trans ?_
  rw [← hh2]
  exact (Heap.get?_update_ne _ _ _ _ nb).trans (Heap.get?_push_of_some _ q)

theorem setg_x {nm q : Str} {bs bm : List Value} {sn : List Str} {sub : List Value} {ab : Bool} {col : Option Bool} {dd : Option Addr} {k0 k1 k2 k3 k5 : Option Value} {B newId sa owner : String} {o : Obj} {Q : Unit → Shared → Prop} (SF : StoreFacts B bm sa owner)
    (gC : h.get? C = some (excClassObj nm q C N bs bm true sn sub ab col dd k0 k1 k2 k3 k5 newId)) (hn : h.Ns N mN) (n1 : mN "__setattr__" = none)
    (gx : h.get? x = some o) (ec : o.cls = .ref C)
    (hq : ∀ A', wpAny (model prog w) A' (Builtin.«object.__setattr__» ⟨[.ref x, .str name t, v], []⟩) (fun z s' => z = .done (.ret .none) ∧ Q () s') (fun _ _ => False) ⟨h, g, d, t + 1, os⟩) :
    wpAny (model prog w) A (setAttr (.ref x) name v) Q E ⟨h, g, d, t, os⟩ := by
  have b1 := SF.slot.bind (.ref x)
  unfold setAttr callSpecial? specialOf
  repeat (any_goals (first | assumption | ((with_reducible refine wpAny_loadPart_at gx ?_); rw [ec]) | ((with_reducible refine wpAny_typeLookup_exc gC hn SF.mro SF.slot.lookup ?_); rw [n1]) | wp_step))
  refine codeAny_call_builtin SF.slot.plain SF.entry (wpAny_check_sa SF gC gx ec (wpAny_mono (hq _) (fun z s' y => ?_) fun _ _ y => y.elim))
  obtain ⟨rfl, y⟩ := y
  repeat (any_goals (first | assumption | wp_step))
theorem set_x {o : Obj} {Q : Unit → Shared → Prop} (xC : XObj C N oC) (gC : h.get? C = some oC) (hn : h.Ns N mN) (n1 : mN "__setattr__" = none) (n2 : mN name = none) (hB : typeLookup (.type "Exception") name = pure none)
    (gx : h.get? x = some o) (ec : o.cls = .ref C) (ed : o.dict = none) (nc : ∀ c, o.data ≠ .cls c)
    (hq : ∀ h' tk, h'.get? x = some { o with dict := some h.objs.size } → h'.Ns1 h.objs.size (fun y => if y = name then some v else none) →
      (∀ b u, b ≠ x → h.get? b = some u → h'.get? b = some u) → Q () ⟨h', g, d, tk, os⟩) :
    wpAny (model prog w) A (setAttr (.ref x) name v) Q E ⟨h, g, d, t, os⟩ := by
  have xC' := xC
  obtain ⟨nm, q, bs, sn, sub, ab, col, dd, k0, k1, k2, k3, k5, rfl⟩ := xC
  exact setg_x PySem.F.store_Exception gC hn n1 gx ec fun A' => sets_x xC' gC hn n2 hB gx ec ed nc fun h' tk z1 z2 z3 => ⟨rfl, hq h' tk z1 z2 z3⟩

/-- x.name of an exception: its own dict has it -/
theorem gets_x {tk : Tok} {o : Obj} {dx : Addr} {mA : Str → Option Value} {Q : Fin → Shared → Prop} (xC : XObj C N oC) (gC : h.get? C = some oC) (hn : h.Ns N mN) (n2 : mN name = none) (hB : typeLookup (.type "Exception") name = pure none)
    (gx : h.get? x = some o) (ec : o.cls = .ref C) (ed : o.dict = some dx) (nc : ∀ c, o.data ≠ .cls c) (nd : h.Ns dx mA) (hv : mA name = some v) (hq : Q (.done (.ret v)) ⟨h, g, d, t, os⟩) :
    wpAny (model prog w) A (Builtin.«object.__getattribute__» ⟨[.ref x, .str name tk], []⟩) Q E ⟨h, g, d, t, os⟩ := by
  obtain ⟨nm, q, bs, sn, sub, ab, col, dd, k0, k1, k2, k3, k5, rfl⟩ := xC
  have SF := PySem.F.store_Exception
  unfold Builtin.«object.__getattribute__»
  repeat (first | ((with_reducible refine wpAny_loadPart_at gx ?_); rw [ec]) | ((with_reducible refine wpAny_typeLookup_exc gC hn SF.mro hB ?_); rw [n2]) | wp_step)
  split
  · rename_i c z
    exact absurd z (nc c)
  unfold instanceDict
  repeat (first | ((with_reducible refine wpAny_loadPart_at gx ?_); rw [ec]) | (with_reducible refine wpAny_loadPart_at gC ?_) | wp_step)
  rw [ed]
  repeat (first | ((with_reducible refine wpAny_nsGet nd ?_); rw [hv]) | wp_step)
  exact hq

theorem chk_x {M : Model} {o : Obj} {nameV : Value} {Q : Unit → Shared → Prop} (xC : XObj C N oC) (gC : h.get? C = some oC) (gx : h.get? x = some o) (ec : o.cls = .ref C) (hq : Q () ⟨h, g, d, t, os⟩) :
    wpAny M A (checkBuiltinCall "BaseException.__getattribute__" ⟨[.ref x, nameV], []⟩) Q E ⟨h, g, d, t, os⟩ := by
  obtain ⟨nm, q, bs, sn, sub, ab, col, dd, k0, k1, k2, k3, k5, rfl⟩ := xC
  have kd : builtinKind "BaseException.__getattribute__" = some .slot := by decide +kernel
  have sp : splitId "BaseException.__getattribute__" = some ("BaseException", "__getattribute__") := by decide +kernel
  have hc : (Value.ref C :: bmX).contains (.type "BaseException") = true := by simp
  have ha := PySem.F.args_bexc_ga (.ref x) nameV
  simp only [checkBuiltinCall, kd, sp]
  refine wpAny_bind ?_
  unfold isInstance
  repeat (first | ((with_reducible refine wpAny_loadPart_at gx ?_); rw [ec]) | ((with_reducible refine wpAny_isSubtype_exc gC ?_); rw [hc]) | wp_step)
  exact hq
theorem get_x {o : Obj} {dx : Addr} {mA : Str → Option Value} {expr : Bool} {Q : Value → Shared → Prop} (xC : XObj C N oC) (gC : h.get? C = some oC) (hn : h.Ns N mN) (n0 : mN "__getattribute__" = none) (n1 : mN "__getattr__" = none) (n2 : mN name = none)
    (hB : typeLookup (.type "Exception") name = pure none)
    (gx : h.get? x = some o) (ec : o.cls = .ref C) (ed : o.dict = some dx) (nc : ∀ c, o.data ≠ .cls c) (nd : h.Ns dx mA) (hv : mA name = some v) (ho : handedOut v = pure v) (hq : Q v ⟨h, g, d, t + 1, os⟩) :
    wpAny (model prog w) A (getAttr (.ref x) name expr) Q E ⟨h, g, d, t, os⟩ := by
  have xC' := xC
  obtain ⟨nm, q, bs, sn, sub, ab, col, dd, k0, k1, k2, k3, k5, rfl⟩ := xC
  have FB := PySem.F.attrBase_Exception
  have b1 := FB.ga.bind (.ref x)
  have y0 : (expr && onTheHeap (Value.builtin "BaseException.__getattribute__")) = false := by cases expr <;> rfl
  have y2 : (Value.builtin "BaseException.__getattribute__" == Value.builtin "object.__getattribute__") = false := by decide +kernel
  have y1 : (onTheHeap (Value.ref C) && Value.builtin "BaseException.__getattribute__" == Value.builtin "object.__getattribute__") = false := by rw [y2]; rfl
  unfold getAttr
  repeat (any_goals (first | assumption | ((with_reducible refine wpAny_loadPart_at gx ?_); rw [ec]) | ((with_reducible refine wpAny_typeLookup_exc gC hn FB.mro FB.ga.lookup ?_); rw [n0]) | ((with_reducible refine wpAny_typeLookup_exc gC hn FB.mro FB.noGetattr ?_); rw [n1]) | wp_step))
  refine codeAny_call_builtin FB.ga.plain PySem.F.entry_bexc_ga ?_
  refine chk_x xC' gC gx ec (gets_x xC' gC hn n2 hB gx ec ed nc nd hv ?_)
  show wpAny _ _ (handedOut v) _ _ _
  rw [ho]
  exact wpAny_pure hq
end
end L2
end
section
set_option Elab.async false
set_option linter.all false
set_option maxRecDepth 100000
namespace L2
open PySem PySem.Spec PyProof.Rows
/-! ### an object that is tracked is there -/
section
variable {P : Program} {w : World} {H H' : Hp} {h h' : Heap} {a : Addr} {o : HO}
theorem ObjOk.there (x : ObjOk P w H h a o) : ∃ u, h.get? a = some u := by
  cases o with
  | lst xs => obtain ⟨_, _, _, _, e⟩ := x; exact ⟨_, e⟩
  | tup xs => obtain ⟨_, _, _, ob, e, _⟩ := x; exact ⟨_, e⟩
  | dK kvs => obtain ⟨_, _, _, _, ob, _, _, e, _⟩ := x; exact ⟨_, e⟩
  | dT kvs => obtain ⟨_, _, _, _, ob, _, _, e, _⟩ := x; exact ⟨_, e⟩
  | set S n => obtain ⟨ob, _, _, _, e, _⟩ := x; exact ⟨_, e⟩
  | ins C dx fs => obtain ⟨_, _, _, e, _⟩ := x; exact ⟨_, e⟩
  | own y => exact x
  | xd fs => obtain ⟨_, ⟨_, _, _, e, _⟩, _⟩ := x; exact ⟨_, e⟩
  | rng lo hi => obtain ⟨_, _, _, e⟩ := x; exact ⟨_, e⟩
  | frz ob u => obtain ⟨e, _⟩ := x; exact ⟨_, e⟩
  | tbl ps => exact ⟨_, (show h.get? a = some _ from x)⟩
  | met f y => exact ⟨_, (show h.get? a = some _ from x)⟩
  | ext φ => exact x.2.1
theorem HOk.none_of (x : HOk P w H h) (n : h.get? a = none) : H a = none := by
  cases q : H a with
  | none => rfl
  | some u =>
    obtain ⟨v, e⟩ := (x a u q).there
    rw [n] at e
    cases e
end
section
variable {X : Cx} {pins : List (Addr × Obj)} {σ : St} {H : Hp} {s : Shared} {h' : Heap}
/-- a new object, at any free address, is laid and tracked -/
theorem Inv.laidAt {a : Addr} {o : HO} {t' : Nat} (I : Inv X pins σ H s) (k : ∀ b u, s.heap.get? b = some u → h'.get? b = some u) (n : s.heap.get? a = none) (new : ObjOk X.prog X.w (upd H a o) h' a o) :
    Inv X pins σ (upd H a o) { s with heap := h', toks := t' } := by
  have hn : H a = none := I.hok.none_of n
  have ne : ∀ {b : Addr} {u : Obj}, s.heap.get? b = some u → b ≠ a := fun {b u} q z => by
    rw [z, n] at q
    cases q
  refine I.un ⟨fun b u q _ _ _ => k b u q, fun b u q _ _ _ => ⟨u.slots, k b u q⟩, fun b u q z _ => by rw [upd_ne (ne q)]; exact z, fun b u q _ => ⟨u, k b u q⟩, fun b xs q => by rw [upd_ne (ne_of_none q hn)]; exact q,
    fun b ob u q => by rw [upd_ne (ne_of_none q hn)]; exact q, fun b ps q => ⟨#[], by rw [upd_ne (ne_of_none q hn), q]; simp⟩⟩ fun b u q => ?_
  by_cases hb : b = a
  · subst hb
    rw [upd_same] at q
    cases q
    exact new
  · rw [upd_ne hb] at q
    exact (I.hok b u q).stay (fun c v _ r => k c v r) (fun c r => by rw [upd_ne (ne_of_none r hn)]; exact r) fun c xs r => by rw [upd_ne (ne_of_none r hn)]; exact r
end

/-! ### exceptions that fly -/
/-- h: ahead of the call; h': where it flies; the exception, its class, its dict, the head of its trace -/
structure FlyX (h h' : Heap) (H' : Hp) (ea C dx T : Addr) : Prop where
  new : h.get? ea = none
  un : H' ea = none
  newT : h.get? T = none
  unT : H' T = none
  ne : T ≠ ea
  exc : ∃ vs sl, h'.get? ea = some { cls := .ref C, dict := some dx, data := .fields vs, slots := sl } ∧ vs[1]? = some (.ref T)
  tb : ∃ oT ts, h'.get? T = some oT ∧ oT.data = .fields ts ∧ ts[3]? = some .none
def CXx (P : Program) (w : World) : CXT := fun outer H s E e s' => ∃ (ea C dx T : Addr) (H' : Hp), e = .ref ea ∧ s'.os = s.os ∧ AllBare s'.gens ∧ Un (frs outer) [] H H' s.heap s'.heap ∧ HOk P w H' s'.heap ∧
  FlyX s.heap s'.heap H' ea C dx T ∧ E (.ref C) (some dx) H'
section
variable {X : Cx} {pins : List (Addr × Obj)} {σ : St} {H : Hp} {s : Shared} {h' : Heap} {ea T : Addr} {hd0 fl : Value} {oe : Obj} {vs : Array Value}
/-- the frame of X is left: what was there at X's entry is kept -/
theorem left_un (I : Inv X pins σ H s) (hex : X.ex = []) (x : LeftX s.heap h' (frs X.stack) ea hd0 fl T oe vs) (ne : X.s_0.heap.get? ea = none) (nh : ∀ b, hd0 = .ref b → X.s_0.heap.get? b = none) :
    Un X.fs [] X.H_0 H X.s_0.heap h' := by
  have xx : ∀ b : Addr, b ∉ X.ex := fun b z => by rw [hex] at z; exact absurd z (by simp)
  have n1 : ∀ {b : Addr} {o : Obj}, X.s_0.heap.get? b = some o → b ≠ ea := fun {b o} q z => by rw [z, ne] at q; cases q
  have n2 : ∀ {b : Addr} {o : Obj}, X.s_0.heap.get? b = some o → Value.ref b ≠ hd0 := fun {b o} q z => by rw [nh b z.symm] at q; cases q
  have n3 : ∀ {b : Addr} {o : Obj}, X.s_0.heap.get? b = some o → b ∉ X.fs → b ∉ frs X.stack := fun {b o} q hb z => by
    rcases List.mem_cons.mp (I.stkSub b z) with e | e
    · have l1 := Heap.lt_size q
      rw [e] at l1
      exact Nat.lt_irrefl _ (Nat.lt_of_lt_of_le l1 I.ok.above)
    · exact hb e
  refine ⟨fun b o q n hb _ => x.keep b o (n3 q hb) (n1 q) (n2 q) (I.base.keep b o q n hb (xx b)), fun b o q n hb _ => ?_, fun b o q n _ => I.base.free b o q n (xx b), fun b o q _ => ?_, I.base.tups, I.base.frzs, I.base.tbls⟩
  · obtain ⟨sl, e1⟩ := I.base.slot b o q n hb (xx b)
    by_cases hs : b ∈ frs X.stack
    · obtain ⟨sl', e2⟩ := x.slot b _ hs e1
      exact ⟨sl', e2⟩
    · exact ⟨sl, x.keep b _ hs (n1 q) (n2 q) e1⟩
  · obtain ⟨o', e1⟩ := I.base.there b o q (xx b)
    by_cases hs : b ∈ frs X.stack
    · obtain ⟨sl', e2⟩ := x.slot b _ hs e1
      exact ⟨_, e2⟩
    · exact ⟨_, x.keep b _ hs (n1 q) (n2 q) e1⟩
/-- .. and what is tracked -/
theorem left_hok (I : Inv X pins σ H s) (x : LeftX s.heap h' (frs X.stack) ea hd0 fl T oe vs) (un : H ea = none) (uh : ∀ b, hd0 = .ref b → H b = none) : HOk X.prog X.w H h' := fun a o e => by
  have ok : ∀ (b : Addr) (u : HO), H b = some u → b ∉ frs X.stack ∧ b ≠ ea ∧ Value.ref b ≠ hd0 := fun b u q =>
    ⟨fun z => (by rw [I.stkFree b z] at q; cases q), fun z => (by rw [z, un] at q; cases q), fun z => (by rw [uh b z.symm] at q; cases q)⟩
  refine (I.hok a o e).stay (fun b u hb q => ?_) (fun _ q => q) fun _ _ q => q
  rcases hb with rfl | hb
  · obtain ⟨o1, o2, o3⟩ := ok b o e
    exact x.keep b u o1 o2 o3 q
  · obtain ⟨o1, o2, o3⟩ := ok b _ hb
    exact x.keep b u o1 o2 o3 q
end
section
variable {P : Program} {w : World} {K : PySem.W.Frag} {mg : Str → Option Value} {base : Heap} {N : List Str} {qual : Str} {scope : Scope} {f : Addr} {cd : Value} {A : Around} {outer : List Env} {s : Shared} {H : Hp} {E : XK}
abbrev cxX (P : Program) (w : World) (K : PySem.W.Frag) (mg : Str → Option Value) (base : Heap) (N : List Str) (qual : Str) (scope : Scope) (f : Addr) (cd : Value) (A : Around) (outer : List Env) (s : Shared) (H : Hp) (E : XK) : Cx :=
  cxOf (CXx P w) P w K mg base N qual scope f cd A outer s H E
/-- an exception, raised here or come from a call, leaves the def -/
theorem flown {pins : List (Addr × Obj)} {σ : St} {H1 : Hp} {s1 : Shared} {ea C dx : Addr} {vs : Array Value} {sl : Array (Option Value)} {hd0 : Value} (I : Inv (cxX P w K mg base N qual scope f cd A outer s H E) pins σ H1 s1)
    (ne : s.heap.get? ea = none) (un : H1 ea = none) (ge : s1.heap.get? ea = some { cls := .ref C, dict := some dx, data := .fields vs, slots := sl }) (h1 : vs[1]? = some hd0) (hh : HeadX s1.heap ea hd0)
    (nh : ∀ b, hd0 = .ref b → s.heap.get? b = none) (uh : ∀ b, hd0 = .ref b → H1 b = none) (q : E (.ref C) (some dx) H1) : (cxX P w K mg base N qual scope f cd A outer s H E).xe (.ref ea) s1 := by
  refine leave_x (base := base) (L := s.heap.objs.size) I.ok.frames I.stack rfl ge rfl h1 hh fun h' T x => ?_
  have sz : 1 < vs.size := (Array.getElem?_eq_some_iff.mp h1).1
  have hT : s1.heap.get? T = none := Heap.get?_none_of_le x.new
  have n0 : s.heap.get? T = none := by
    cases e : s.heap.get? T with
    | none => rfl
    | some o =>
      obtain ⟨o', e'⟩ := I.base.there T o e (by intro z; exact absurd (show T ∈ ([] : List Addr) from z) (by simp))
      rw [hT] at e'
      cases e'
  refine ⟨ea, C, dx, T, H1, rfl, I.os, I.bare, left_un I rfl x ne nh, left_hok I x un uh, ⟨ne, un, n0, I.hok.none_of hT, fun z => (by rw [z, ge] at hT; cases hT), ⟨_, _, x.exc, by simp [sz]⟩, x.tb⟩, q⟩
theorem pass_x : Passes (CXx P w) (cxX P w K mg base N qual scope f cd A outer s H E) E := by
  intro pins σ H1 s1 e s' I h
  obtain ⟨ea, C, dx, T, H', rfl, os, bare, un, hok, fl, q⟩ := h
  have I' := I.call' (ch := []) os un hok bare (fun b z => absurd z (by simp))
  obtain ⟨vs, sl, ge, h1⟩ := fl.exc
  obtain ⟨oT, ts, gT, dT, h3⟩ := fl.tb
  have old : ∀ b, s1.heap.get? b = none → s.heap.get? b = none := fun b n => by
    cases e : s.heap.get? b with
    | none => rfl
    | some o =>
      obtain ⟨o', e'⟩ := I.base.there b o e (by intro z; exact absurd (show b ∈ ([] : List Addr) from z) (by simp))
      rw [n] at e'
      cases e'
  exact flown I' (old ea fl.new) fl.un ge h1 (.inr ⟨T, oT, ts, rfl, fl.ne, gT, dT, h3⟩) (fun b z => by cases z; exact old _ fl.newT) (fun b z => by cases z; exact fl.unT) q
/-- a promise without exceptions -/
theorem pass_no {X : Cx} : Passes (CXx P w) X E0 := fun _ _ _ _ _ _ _ h => by
  obtain ⟨_, _, _, _, _, _, _, _, _, _, _, z⟩ := h
  exact z.elim
theorem passes_own_x : PassesOwn (model P w) (cxX P w K mg base N qual scope f cd A outer s H E).A (cxX P w K mg base N qual scope f cd A outer s H E).env (cxX P w K mg base N qual scope f cd A outer s H E).xe := PassesOwn.leaving
end
end L2
end
section
set_option Elab.async false
set_option linter.all false
set_option maxRecDepth 100000
namespace L2
open PySem PySem.Spec PyProof.Rows
/-! ### own exception classes: what of the text they must have -/
theorem ns_some_of {K : PySem.W.Frag} {h : Heap} {N : Addr} {m : Str → Option Value} {n : Str} {v : Value} (X : K.In h) (G : h.Ns N m) (e : PySem.W.nsIn K N n = some (some v)) : m n = some v := by
  obtain ⟨o, es, ep, ho, hd, _, hf⟩ := G
  unfold PySem.W.nsIn at e
  split at e
  · rename_i es' _ _ q
    have z := X _ _ q
    rw [ho] at z
    cases z
    cases hd
    split at e
    · rename_i en he
      cases e
      rw [← hf]
      unfold nsFind findBy
      rw [← Array.find?_toList, he]
      rfl
    · split at e <;> cases e
  · cases e
structure XCls (K : PySem.W.Frag) (C : Addr) (f : Str) : Prop where
  ex : ∃ (oC : Obj) (N : Addr), K.lookup C = some oC ∧ XObj C N oC ∧ PySem.W.nsOkIn K N = true ∧ PySem.W.nsIn K N "__setattr__" = some none ∧ PySem.W.nsIn K N "__getattribute__" = some none ∧
    PySem.W.nsIn K N "__getattr__" = some none ∧ PySem.W.nsIn K N f = some none
  nb : typeLookup (.type "Exception") f = pure none
structure XMk (K : PySem.W.Frag) (C fI : Addr) : Prop where
  ex : ∃ (oC : Obj) (N : Addr), K.lookup C = some oC ∧ XObj C N oC ∧ PySem.W.nsOkIn K N = true ∧ PySem.W.nsIn K N "__init__" = some (some (.ref fI))
  fn : ∃ oI : Obj, K.lookup fI = some oI ∧ oI.cls = .type "function"
  kp : PySem.W.keepIn K (.ref C) = true

/-! ### an exception that is made (no trace yet), and one that was caught -/
def xo (a C : Addr) (d : Option Addr) : HO := .ext fun h => ∃ t, h.get? a = some (excO C d t)
def xc (a C dx : Addr) : HO := .ext fun h => ∃ vs sl, h.get? a = some { cls := .ref C, dict := some dx, data := .fields vs, slots := sl }
section
variable {P : Program} {w : World} {H : Hp} {h : Heap} {a C dx t : Addr} {d : Option Addr}
theorem xo_ok (e : h.get? a = some (excO C d t)) : ObjOk P w H h a (xo a C d) := ⟨⟨t, e⟩, ⟨_, e⟩, fun h1 h2 ⟨t, q⟩ k => ⟨t, k _ q⟩⟩
theorem xo_get (hok : HOk P w H h) (e : H a = some (xo a C d)) : ∃ t, h.get? a = some (excO C d t) := (hok a _ e).1
theorem xc_ok {vs : Array Value} {sl : Array (Option Value)} (e : h.get? a = some { cls := .ref C, dict := some dx, data := .fields vs, slots := sl }) : ObjOk P w H h a (xc a C dx) := ⟨⟨vs, sl, e⟩, ⟨_, e⟩, fun h1 h2 ⟨vs, sl, q⟩ k => ⟨vs, sl, k _ q⟩⟩
theorem xc_get (hok : HOk P w H h) (e : H a = some (xc a C dx)) : ∃ vs sl, h.get? a = some { cls := .ref C, dict := some dx, data := .fields vs, slots := sl } := (hok a _ e).1
end

/-! ### self.f = v in an exception's __init__ -/
def sXFld (K : PySem.W.Frag) (ta tv : TE) (f : Str) : TS := fun D σ H => tv σ H fun y H1 => ta σ H1 fun x H2 => ∃ a C, x = .ref a ∧ H2 a = some (xo a C none) ∧ XCls K C f ∧
  ∀ dx, H2 dx = none → dx ≠ a → D.nx σ (upd (upd H2 dx (.xd [(f, y)])) a (xo a C (some dx)))
section
variable {X : Cx} {pins : List (Addr × Obj)} {σ : St} {H : Hp} {s : Shared} {a C : Addr} {f : Str}
theorem setx_ok {A : Around} {E : Value → Shared → Prop} {y : V} {u : Value} {Q : Unit → Shared → Prop} (I : Inv X pins σ H s) (e : H a = some (xo a C none)) (c : XCls X.K C f) (ry : RelV y u)
    (h : ∀ dx s', H dx = none → dx ≠ a → Inv X pins σ (upd (upd H dx (.xd [(f, y)])) a (xo a C (some dx))) s' → Q () s') : wpAny (model X.prog X.w) A (setAttr (.ref a) f u) Q E s := by
  obtain ⟨oC, N, lC, xC, nk, n1, n2, n3, n4⟩ := c.ex
  obtain ⟨t, ge⟩ := xo_get I.hok e
  have KX := I.kIn
  have G : s.heap.Ns N (s.heap.nsMap N) := .of_isNs (PySem.W.isNs_of_in KX nk)
  obtain ⟨hp, g, d, tk, os⟩ := s
  refine set_x xC (KX _ _ lC) G (PySem.W.ns_none_of KX G n1) (PySem.W.ns_none_of KX G n4) c.nb ge rfl rfl (fun _ z => nomatch z) fun h' tk' g1 ns1 kp => ?_
  have hf : H hp.objs.size = none := I.hok.fresh (Nat.le_refl _)
  have na : hp.objs.size ≠ a := Ne.symm (ne_of_none e hf)
  refine h hp.objs.size _ hf na ?_
  have nd : ∀ {b : Addr} {o : Obj}, hp.get? b = some o → b ≠ hp.objs.size := fun {b o} q => Nat.ne_of_lt (Heap.lt_size q)
  have keepU : ∀ {b : Addr} {o : Obj}, hp.get? b = some o → H b = none → h'.get? b = some o := fun {b o} q n => kp b o (Ne.symm (ne_of_none e n)) q
  have up : ∀ {b : Addr}, b ≠ a → b ≠ hp.objs.size → (upd (upd H hp.objs.size (.xd [(f, y)])) a (xo a C (some hp.objs.size))) b = H b := fun {b} z1 z2 => by rw [upd_ne z1, upd_ne z2]
  have keepT : ∀ {b : Addr} {o : HO}, H b = some o → o ≠ xo a C none → (upd (upd H hp.objs.size (.xd [(f, y)])) a (xo a C (some hp.objs.size))) b = some o := fun {b o} q n =>
    (up (fun z => n (Option.some.inj ((z ▸ q).symm.trans e))) (ne_of_none q hf)).trans q
  refine I.un (h' := h') ⟨fun b o q n _ _ => keepU q n, fun b o q n _ _ => ⟨o.slots, keepU q n⟩, fun b o q n _ => ?_, fun b o q _ => ?_, fun b xs q => keepT q (fun z => nomatch z), fun b o u q => keepT q (fun z => nomatch z), fun b ps q => ⟨#[], by rw [keepT q (fun z => nomatch z)]; simp⟩⟩ fun b o q => ?_
  · rw [up (Ne.symm (ne_of_none e n)) (nd q)]
    exact n
  · by_cases z : b = a
    · subst z
      exact ⟨_, g1⟩
    · exact ⟨o, kp b o z q⟩
  · by_cases z : b = a
    · subst z
      rw [upd_same] at q
      cases q
      exact xo_ok g1
    · rw [upd_ne z] at q
      by_cases z2 : b = hp.objs.size
      · subst z2
        rw [upd_same] at q
        cases q
        refine ⟨_, ns1, fun n => ?_⟩
        by_cases hn : n = f
        · subst hn
          rw [if_pos rfl, List.lookup, beq_self_eq_true]
          exact ry
        · rw [if_neg hn, List.lookup, beq_eq_false_iff_ne.mpr hn]
          exact True.intro
      · rw [upd_ne z2] at q
        refine (I.hok b o q).stay (fun c v hc r => ?_) (fun c r => keepT r (fun z => nomatch z)) fun c xs r => keepT r (fun z => nomatch z)
        rcases hc with rfl | hc
        · exact kp c v z r
        · exact kp c v (fun z3 => by rw [z3, e] at hc; cases hc) r
theorem ps_xfld {o value : Expr} {pos pos' : Pos} {ta tv : TE} (ha : PE X o ta) (hv : PE X value tv) (hs : swapsWith value (some (.Attribute o f pos')) pos.line X.env = pure false) : PS X (.Assign [.Attribute o f pos'] value pos) (sXFld X.K ta tv f) := by
  intro pins s σ H D I h
  refine plainObj_wpAny_Assign_Attribute (thn (hv pins s σ H _ I h) fun u s1 ⟨y, H1, I1, ry, q⟩ => thn (ha pins s1 σ H1 _ I1 q) fun ov s2 ⟨x, H2, I2, rx, a, C, ex, ea, c, q2⟩ => ?_) hs
  subst ex
  obtain rfl : ov = Value.ref a := rx
  exact setx_ok I2 ea c ry fun dx s3 n1 n2 I3 => ⟨σ, _, I3, q2 dx n1 n2⟩
/-! ### e.f of an exception that was caught -/
def tXFld (K : PySem.W.Frag) (ta : TE) (f : Str) : TE := fun σ H Q => ta σ H fun x H1 => ∃ a C dx fs v, x = .ref a ∧ H1 a = some (xc a C dx) ∧ H1 dx = some (.xd fs) ∧ XCls K C f ∧ fs.lookup f = some v ∧ Q v H1
theorem handedOut_of_rel {v : V} {u : Value} (r : RelV v u) : handedOut u = pure u := PySem.W.handedOut_of (handed_of r)
theorem pe_xfld {e : Expr} {pos : Pos} {ta : TE} (he : PE X e ta) (hb : attributeBase e f X.env (eval e X.env) = eval e X.env) : PE X (.Attribute e f pos) (tXFld X.K ta f) := by
  intro pins s σ H Q I h
  refine attr_of hb (thn (he pins s σ H _ I h) fun u s1 ⟨x, H1, I1, rx, a, C, dx, fs, v, ex, ea, ed, c, l, q⟩ => ?_)
  subst ex
  obtain rfl : u = Value.ref a := rx
  obtain ⟨oC, N, lC, xC, nk, n1, n2, n3, n4⟩ := c.ex
  obtain ⟨vs, sl, ge⟩ := xc_get I1.hok ea
  obtain ⟨mA, nA, rA⟩ := (show ObjOk X.prog X.w H1 s1.heap dx (.xd fs) from I1.hok dx _ ed)
  obtain ⟨u', eu, ru⟩ := RelO.some_of (v := v) (o := mA f) (by rw [← l]; exact rA f)
  have KX := I1.kIn
  have G : s1.heap.Ns N (s1.heap.nsMap N) := .of_isNs (PySem.W.isNs_of_in KX nk)
  have fin := I1.tok (s1.toks + 1)
  obtain ⟨hp, g, d, tk, os⟩ := s1
  exact get_x xC (KX _ _ lC) G (PySem.W.ns_none_of KX G n2) (PySem.W.ns_none_of KX G n3) (PySem.W.ns_none_of KX G n4) c.nb ge rfl rfl (fun _ z => nomatch z) nA.ns eu (handedOut_of_rel ru) ⟨v, H1, fin, ru, q⟩
end

/-! ### raise C(..) -/
/-- an object is tracked no more -/
def untr (H : Hp) (a : Addr) : Hp := fun b => if b = a then none else H b
theorem untr_same {H : Hp} {a : Addr} : untr H a a = none := by unfold untr; rw [if_pos rfl]
theorem untr_ne {H : Hp} {a b : Addr} (h : b ≠ a) : untr H a b = H b := by unfold untr; rw [if_neg h]
/-- sp: the promise of the class's __init__ -/
def tRaise (C : Addr) (sp : Sp) (E : XK) (t : TA) : TS := fun _ σ H => t σ H fun vs H1 => vs.length ≤ 1000 ∧ ∀ ea, H1 ea = none →
  sp (.ref ea :: vs) (upd H1 ea (xo ea C none)) (fun v H2 => v = .non ∧ ∃ dx, H2 ea = some (xo ea C (some dx)) ∧ E (.ref C) (some dx) (untr H2 ea)) E0
section
variable {P : Program} {w : World} {K : PySem.W.Frag} {mg : Str → Option Value} {base : Heap} {N : List Str} {qual : Str} {scope : Scope} {f : Addr} {cd : Value} {A : Around} {outer : List Env} {s0 : Shared} {H0 : Hp} {E : XK}
theorem inv_untr {X : Cx} {pins : List (Addr × Obj)} {σ : St} {H : Hp} {s : Shared} {ea C : Addr} {d : Option Addr} (I : Inv X pins σ H s) (e : H ea = some (xo ea C d)) : Inv X pins σ (untr H ea) s := by
  have kt : ∀ {b : Addr} {o : HO}, H b = some o → o ≠ xo ea C d → untr H ea b = some o := fun {b o} q n => (untr_ne fun z => n (Option.some.inj ((z ▸ q).symm.trans e))).trans q
  have kn : ∀ {b : Addr}, H b = none → untr H ea b = none := fun {b} q => (untr_ne (Ne.symm (ne_of_none e q))).trans q
  refine ⟨I.ok, I.os, I.bare, ⟨I.base.keep, I.base.slot, fun b o q n x => kn (I.base.free b o q n x), I.base.there, fun b xs q => kt (I.base.tups b xs q) (fun z => nomatch z), fun b o u q => kt (I.base.frzs b o u q) (fun z => nomatch z), fun b ps q => ?_⟩,
    I.loc, I.cell, kn I.free, fun x c q => kn (I.freeC x c q), fun p hp => ?_, fun b o q => ?_, I.len⟩
  · obtain ⟨m, z⟩ := I.base.tbls b ps q
    exact ⟨m, kt z (fun z => nomatch z)⟩
  · obtain ⟨p1, p2, p3⟩ := I.pin p hp
    exact ⟨p1, kn p2, p3⟩
  · by_cases z : b = ea
    · subst z
      rw [untr_same] at q
      cases q
    · rw [untr_ne z] at q
      exact (I.hok b o q).stay (fun c v _ r => r) (fun c r => kt r (fun z => nomatch z)) fun c xs r => kt r (fun z => nomatch z)
theorem ps_raise {C fI : Addr} {fd : FuncData} {k : Nat} {ps : List Str} {sp : Sp} {x : Str} {p cpos pos : Pos} {e : Expr} {es : List Expr} {t : TA} (M : XMk K C fI) (F : FnOk P w K mg base (CXx P w) k fI fd ps sp)
    (hr : Room (k + 1) (cxX P w K mg base N qual scope f cd A outer s0 H0 E).A) (hg : Gl (cxX P w K mg base N qual scope f cd A outer s0 H0 E) x) (hm : mg x = some (.ref C)) (hb : Binds K fd ps [])
    (ha : PA (cxX P w K mg base N qual scope f cd A outer s0 H0 E) (e :: es) t) (hdb : (x == ("__debug__" : Str)) = false := by decide)
    (he : starEach (e :: es) (cxX P w K mg base N qual scope f cd A outer s0 H0 E).env = (false, eval e (cxX P w K mg base N qual scope f cd A outer s0 H0 E).env) :: starEach es (cxX P w K mg base N qual scope f cd A outer s0 H0 E).env := by rfl)
    (hpl : (backTo cpos (starEach es (cxX P w K mg base N qual scope f cd A outer s0 H0 E).env)).any (·.1) = false := by rfl) :
    PS (cxX P w K mg base N qual scope f cd A outer s0 H0 E) (.Raise (some (.Call (.Name x p) (e :: es) [] cpos)) none pos) (tRaise C sp E t) := by
  intro pins s σ H D I h
  obtain ⟨oC, NC, lC, xC, nk, ni⟩ := M.ex
  obtain ⟨oI, lI, cI⟩ := M.fn
  have thr : ∀ (pins : List (Addr × Obj)) (σ : St) (H1 : Hp) (s1 : Shared) (ea dx t : Addr), Inv (cxX P w K mg base N qual scope f cd A outer s0 H0 E) pins σ H1 s1 → s0.heap.get? ea = none → H1 ea = none → s1.heap.get? ea = some (excO C (some dx) t) →
      E (.ref C) (some dx) H1 → (cxX P w K mg base N qual scope f cd A outer s0 H0 E).xe (.ref ea) s1 := fun _ _ _ _ _ _ _ I1 o1 u1 g1 q1 => flown I1 o1 u1 g1 rfl (.inl rfl) (fun b z => nomatch z) (fun b z => nomatch z) q1
  generalize hX : cxX P w K mg base N qual scope f cd A outer s0 H0 E = X at *
  have eP : X.prog = P := by rw [← hX]; rfl
  have ew : X.w = w := by rw [← hX]; rfl
  have eK : X.K = K := by rw [← hX]; rfl
  have em : X.mg = mg := by rw [← hX]; rfl
  have eb : X.base = base := by rw [← hX]; rfl
  subst eP ew eK em eb
  rw [arm_exec_Raise]
  refine wpAny_bind (wpAny_standAt (raise_x (C := C) (N := NC) hr.hd ?_))
  refine wpAny_bind (wpAny_mono (wpAny_Call_Name_kw (ld_glob I hg hm ?_ hdb)) (fun v s1 q => wpAny_bind (wpAny_standAt (wpAny_pure q))) fun _ _ q => q)
  refine PySem.W.callWith_K (h₀ := X.base) I.ok.mod.kin M.kp (thn (ha cpos pins s σ H _ I h) fun us s1 ⟨vs, H1, I1, r, zl, q⟩ => ⟨I1.kIn, ?_⟩) he hpl
  have KX := I1.kIn
  have G : s1.heap.Ns NC (s1.heap.nsMap NC) := .of_isNs (PySem.W.isNs_of_in KX nk)
  have gC := KX _ _ lC
  have ul : us.length ≤ sizeLine := by rw [← r.length]; exact Nat.le_trans zl (by decide)
  obtain ⟨nm, qn, bs, sn, sub, ab, col, dd, k0, k1, k2, k3, k5, eC⟩ := id xC
  subst eC
  obtain ⟨hp, g, d, tk, os⟩ := id s1
  refine wpAny_call_exc_init (h := s1.heap) (g := s1.gens) (d := s1.drawn) (t := s1.toks) (os := s1.os) PySem.F.excBase_Exception gC G (ns_some_of KX G ni) (KX _ _ lI) cI (fun h' ea mk => ?_) ul
  obtain ⟨ta, ge, _, _⟩ := mk.there
  have I2 : Inv X pins σ (upd H1 ea (xo ea C none)) { s1 with heap := h' } := I1.laidAt (t' := s1.toks) mk.keeps mk.new (xo_ok ge)
  have qq := q ea (I1.hok.none_of mk.new)
  have r2 : Vals (V.ref ea :: vs) (Value.ref ea :: us) := .cons rfl r
  have hl : (Value.ref ea :: us ++ []).length = ps.length := by
    have z := r2.length
    rw [F.len _ _ _ _ qq] at z
    rw [List.append_nil]
    exact z.symm
  have bb := hb { s1 with heap := h' } (Value.ref ea :: us) I2.kIn hl
  rw [List.append_nil] at bb
  have old : s0.heap.get? ea = none := by
    cases z : s0.heap.get? ea with
    | none => rfl
    | some o =>
      have e0 : X.s_0.heap.get? ea = some o := by rw [← hX]; exact z
      obtain ⟨o', z'⟩ := I1.base.there ea o e0 (by rw [← hX]; intro z; exact absurd (show ea ∈ ([] : List Addr) from z) (by simp))
      rw [mk.new] at z'
      cases z'
  refine wpAny_call (codeAny_mono (F.run _ X.stack _ _ ⟨Value.ref ea :: us, []⟩ (Value.ref ea :: us) _ _ E0 (hr.make C us []) (I2.env0.make C us []) bb r2 qq) fun rr s' hq' => ?_)
  cases rr with
  | error e' =>
    obtain ⟨_, _, _, _, _, _, _, _, _, _, _, z⟩ := hq'
    exact z.elim
  | ok fl =>
    cases fl with
    | next => exact False.elim hq'
    | brk => exact False.elim hq'
    | cont => exact False.elim hq'
    | ret u =>
      obtain ⟨v, H3, I3, rv, ev, dx, ex3, qE⟩ := I2.after hq'
      subst ev
      obtain ⟨tb, ge3⟩ := xo_get I3.hok ex3
      refine ⟨rv, ea, some dx, tb, _, rfl, xC, I3.kIn _ _ lC, ge3, ?_⟩
      have I4 := inv_untr I3 ex3
      exact thr pins σ _ _ ea dx tb I4 old untr_same ge3 qE
end
end L2
end
section
set_option Elab.async false
set_option linter.all false
set_option maxRecDepth 100000
namespace L2
open PySem PySem.Spec PyProof.Rows
/-! ### try: x = f(..) except C as n: suite (the suite hands back) -/
/-- the same body under another surrounding (within an except suite) -/
abbrev Cx.held (X : Cx) (A' : Around) : Cx := { X with A := A', calm := false, xe := fun _ _ => False }
section
variable {X : Cx} {pins : List (Addr × Obj)} {σ : St} {H : Hp} {s : Shared}
theorem Inv.held {A' : Around} (I : Inv X pins σ H s) (hf : A'.frames = X.A.frames) : Inv (X.held A') pins σ H s :=
  ⟨⟨I.ok.mod, I.ok.kind, I.ok.glob, I.ok.blt, I.ok.above, I.ok.inj, I.ok.has, I.ok.cab, fun z => Bool.noConfusion (show false = true from z), hf.trans I.ok.frames, I.ok.stk, I.ok.exf, I.ok.bs, I.ok.bsz, I.ok.noex, I.ok.exfs, I.ok.funs, I.ok.frf⟩,
    I.os, I.bare, I.base, I.loc, I.cell, I.free, I.freeC, I.pin, I.hok, I.len⟩
theorem Inv.unheld {A' : Around} {pins' : List (Addr × Obj)} {σ' : St} {H' : Hp} {s' : Shared} (I0 : Inv X pins σ H s) (I : Inv (X.held A') pins' σ' H' s') : Inv X pins' σ' H' s' :=
  ⟨I0.ok, I.os, I.bare, I.base, I.loc, I.cell, I.free, I.freeC, I.pin, I.hok, I.len⟩
/-- an exception's record: no frame, no cell, nothing pinned -/
structure Apart (X : Cx) (pins : List (Addr × Obj)) (a : Addr) : Prop where
  old : X.s_0.heap.get? a = none
  loc : a ≠ X.env.locals
  cel : ∀ x c, X.env.cells.lookup x = some c → c ≠ a
  pin : ∀ p ∈ X.pn ++ pins, p.1 ≠ a
theorem Inv.apart {H' : Hp} {s' : Shared} {a : Addr} (hex : X.ex = []) (I : Inv X pins σ H s) (n : s.heap.get? a = none) : Apart X pins a := by
  refine ⟨?_, fun z => ?_, fun x c e z => ?_, fun p hp z => ?_⟩
  · cases e : X.s_0.heap.get? a with
    | none => rfl
    | some o =>
      obtain ⟨o', e'⟩ := I.base.there a o e (by rw [hex]; simp)
      rw [n] at e'
      cases e'
  · obtain ⟨m, ⟨o, _, _, ho, _⟩, _⟩ := I.loc
    rw [← z, n] at ho
    cases ho
  · obtain ⟨v, o, ho, _⟩ := I.cell x c e
    rw [z, n] at ho
    cases ho
  · obtain ⟨e, _⟩ := I.pin p hp
    rw [z, n] at e
    cases e
/-- behind noteFrame and setFlight -/
theorem Inv.noted {h' : Heap} {ea T : Addr} {hd0 fl : Value} {oe : Obj} {vs : Array Value} (I : Inv X pins σ H s) (hex : X.ex = []) (x : LeftX s.heap h' (frs X.stack) ea hd0 fl T oe vs) (ae : Apart X pins ea) (un : H ea = none)
    (ah : ∀ b, hd0 = .ref b → Apart X pins b ∧ H b = none) : Inv X pins σ H { s with heap := h' } := by
  have keepN : ∀ b o, s.heap.get? b = some o → b ≠ ea → Value.ref b ≠ hd0 → ∃ sl, h'.get? b = some { o with slots := sl } := fun b o q n1 n2 => by
    by_cases hs : b ∈ frs X.stack
    · exact x.slot b o hs q
    · exact ⟨o.slots, x.keep b o hs n1 n2 q⟩
  have nsK : ∀ m, s.heap.Ns X.env.locals m → h'.Ns X.env.locals m := fun m ⟨o, es, ep, ho, r⟩ => by
    obtain ⟨sl, q⟩ := keepN _ o ho (Ne.symm ae.loc) fun z => (ah _ z.symm).1.loc rfl
    exact ⟨_, es, ep, q, r⟩
  have cellK : ∀ y c, X.env.cells.lookup y = some c → ∀ v, s.heap.IsCell c v → h'.IsCell c v := fun y c e v ⟨o, ho, hd⟩ => by
    obtain ⟨sl, q⟩ := keepN c o ho (ae.cel y c e) fun z => (ah _ z.symm).1.cel y c e rfl
    exact ⟨_, q, hd⟩
  have bb := left_un I hex x ae.old fun b z => (ah b z).1.old
  refine ⟨I.ok, I.os, I.bare, by rw [hex]; exact bb, ?_, fun y c e => ?_, I.free, I.freeC, fun p hp => ?_, left_hok I x un fun b z => (ah b z).2, I.len⟩
  · obtain ⟨m, hn, hl⟩ := I.loc
    refine ⟨m, nsK m hn, fun i y v e1 e2 e3 => ?_⟩
    obtain ⟨u, r, l⟩ := hl i y v e1 e2 e3
    refine ⟨u, r, ?_⟩
    rcases l with l | ⟨k, c, e, z⟩
    · exact .inl l
    · exact .inr ⟨k, c, e, cellK y c e _ z⟩
  · obtain ⟨v, z⟩ := I.cell y c e
    exact ⟨v, cellK y c e v z⟩
  · obtain ⟨p1, p2, p3, p4, p5⟩ := I.pin p hp
    refine ⟨x.keep p.1 p.2 (fun z => ?_) (ae.pin p hp) (fun z => (ah _ z.symm).1.pin p hp rfl) p1, p2, p3, p4, p5⟩
    rcases List.mem_cons.mp (I.stkSub p.1 z) with e | e
    · exact p3 e
    · exact p4 e
/-- an object that stands apart is tracked from now on -/
theorem Inv.track {a : Addr} {o : HO} (I : Inv X pins σ H s) (ap : Apart X pins a) (n : H a = none) (new : ObjOk X.prog X.w (upd H a o) s.heap a o) : Inv X pins σ (upd H a o) s := by
  have kt : ∀ {b : Addr} {u : HO}, H b = some u → upd H a o b = some u := fun {b u} q => by rw [upd_ne (ne_of_none q n)]; exact q
  have kn : ∀ {b : Addr}, b ≠ a → H b = none → upd H a o b = none := fun {b} z q => by rw [upd_ne z]; exact q
  refine ⟨I.ok, I.os, I.bare, ⟨I.base.keep, I.base.slot, fun b u q m x => kn (fun z => by rw [z, ap.old] at q; cases q) (I.base.free b u q m x), I.base.there, fun b xs q => kt (I.base.tups b xs q), fun b u v q => kt (I.base.frzs b u v q), fun b ps q => ?_⟩,
    I.loc, I.cell, kn (Ne.symm ap.loc) I.free, fun x c q => kn (ap.cel x c q) (I.freeC x c q), fun p hp => ?_, fun b u q => ?_, I.len⟩
  · obtain ⟨m, z⟩ := I.base.tbls b ps q
    exact ⟨m, kt z⟩
  · obtain ⟨p1, p2, p3⟩ := I.pin p hp
    exact ⟨p1, kn (ap.pin p hp) p2, p3⟩
  · by_cases z : b = a
    · subst z
      rw [upd_same] at q
      cases q
      exact new
    · rw [upd_ne z] at q
      exact (I.hok b u q).stay (fun c v _ r => r) (fun c r => kt r) fun c xs r => kt r
/-- the frame's names are forgotten -/
theorem Inv.forget {h' : Heap} {t' : Nat} {m' : Str → Option Value} (I : Inv X pins σ H s) (hn : h'.Ns X.env.locals m') (sb : Heap.SameBut X.env.locals s.heap h') : Inv X pins (List.replicate X.N.length none) H { s with heap := h', toks := t' } := by
  have neL : ∀ b o, X.s_0.heap.get? b = some o → b ≠ X.env.locals := fun b o e => Nat.ne_of_lt (Nat.lt_of_lt_of_le (Heap.lt_size e) I.ok.above)
  have kp : ∀ b, b ≠ X.env.locals → h'.get? b = s.heap.get? b := fun b z => sb.2 b z
  have neT : ∀ b u, H b = some u → b ≠ X.env.locals := fun b u q z => by rw [z, I.free] at q; cases q
  refine ⟨I.ok, I.os, I.bare, ⟨fun b o q n hb hx => (kp b (neL b o q)).trans (I.base.keep b o q n hb hx), fun b o q n hb hx => ?_, I.base.free, fun b o q hx => ?_, I.base.tups, I.base.frzs, I.base.tbls⟩,
    ⟨m', hn, fun i x v _ e2 _ => ?_⟩, fun x c e => ?_, I.free, I.freeC, fun p hp => ?_, fun b u q => ?_, by rw [List.length_replicate]⟩
  · obtain ⟨sl, e⟩ := I.base.slot b o q n hb hx
    exact ⟨sl, (kp b (neL b o q)).trans e⟩
  · obtain ⟨o', e⟩ := I.base.there b o q hx
    exact ⟨o', (kp b (neL b o q)).trans e⟩
  · rw [List.getElem?_replicate] at e2
    split at e2 <;> cases e2
  · obtain ⟨v, o, ho, hd⟩ := I.cell x c e
    exact ⟨v, o, (kp c (I.cne x c e)).trans ho, hd⟩
  · obtain ⟨p1, p2, p3, p4⟩ := I.pin p hp
    exact ⟨(kp p.1 p3).trans p1, p2, p3, p4⟩
  · refine (I.hok b u q).stay (fun c v hc r => (kp c ?_).trans r) (fun _ z => z) fun _ _ z => z
    rcases hc with rfl | hc
    · exact neT c u q
    · exact neT c _ hc
end
end L2
end
section
set_option Elab.async false
set_option linter.all false
set_option maxRecDepth 100000
namespace L2
open PySem PySem.Spec PyProof.Rows
section
variable {P : Program} {w : World} {K : PySem.W.Frag} {mg : Str → Option Value} {base : Heap} {N : List Str} {qual : Str} {scope : Scope} {f : Addr} {cd : Value} {A : Around} {outer : List Env} {s0 : Shared} {H0 : Hp} {E : XK}
theorem ps_raise0 {C fI : Addr} {fd : FuncData} {k : Nat} {ps : List Str} {sp : Sp} {x : Str} {p cpos pos : Pos} (M : XMk K C fI) (F : FnOk P w K mg base (CXx P w) k fI fd ps sp)
    (hr : Room (k + 1) (cxX P w K mg base N qual scope f cd A outer s0 H0 E).A) (hg : Gl (cxX P w K mg base N qual scope f cd A outer s0 H0 E) x) (hm : mg x = some (.ref C)) (hb : Binds K fd ps [])
    (hdb : (x == ("__debug__" : Str)) = false := by decide) :
    PS (cxX P w K mg base N qual scope f cd A outer s0 H0 E) (.Raise (some (.Call (.Name x p) [] [] cpos)) none pos) (tRaise C sp E tNil) := by
  intro pins s σ H D I h
  obtain ⟨oC, NC, lC, xC, nk, ni⟩ := M.ex
  obtain ⟨oI, lI, cI⟩ := M.fn
  have thr : ∀ (pins : List (Addr × Obj)) (σ : St) (H1 : Hp) (s1 : Shared) (ea dx t : Addr), Inv (cxX P w K mg base N qual scope f cd A outer s0 H0 E) pins σ H1 s1 → s0.heap.get? ea = none → H1 ea = none → s1.heap.get? ea = some (excO C (some dx) t) →
      E (.ref C) (some dx) H1 → (cxX P w K mg base N qual scope f cd A outer s0 H0 E).xe (.ref ea) s1 := fun _ _ _ _ _ _ _ I1 o1 u1 g1 q1 => flown I1 o1 u1 g1 rfl (.inl rfl) (fun b z => nomatch z) (fun b z => nomatch z) q1
  generalize hX : cxX P w K mg base N qual scope f cd A outer s0 H0 E = X at *
  have eP : X.prog = P := by rw [← hX]; rfl
  have ew : X.w = w := by rw [← hX]; rfl
  have eK : X.K = K := by rw [← hX]; rfl
  have em : X.mg = mg := by rw [← hX]; rfl
  have eb : X.base = base := by rw [← hX]; rfl
  subst eP ew eK em eb
  rw [arm_exec_Raise]
  refine wpAny_bind (wpAny_standAt (raise_x (C := C) (N := NC) hr.hd ?_))
  refine wpAny_bind (wpAny_mono (wpAny_Call_Name_kw (ld_glob I hg hm ?_ hdb)) (fun v s1 q => wpAny_bind (wpAny_standAt (wpAny_pure q))) fun _ _ q => q)
  refine PySem.W.callWith_K0 I.kIn M.kp ?_
  obtain ⟨us, eus⟩ : ∃ us : List Value, us = [] := ⟨_, rfl⟩
  obtain ⟨vs, evs⟩ : ∃ vs : List V, vs = [] := ⟨_, rfl⟩
  obtain ⟨s1, es1⟩ : ∃ s1 : Shared, s1 = s := ⟨_, rfl⟩
  obtain ⟨H1, eH1⟩ : ∃ H1 : Hp, H1 = H := ⟨_, rfl⟩
  have I1 : Inv X pins σ H1 s1 := by rw [es1, eH1]; exact I
  have r : Vals vs us := by rw [eus, evs]; exact .nil
  obtain ⟨zl, q⟩ : vs.length ≤ 1000 ∧ ∀ ea, H1 ea = none → sp (.ref ea :: vs) (upd H1 ea (xo ea C none)) (fun v H2 => v = .non ∧ ∃ dx, H2 ea = some (xo ea C (some dx)) ∧ E (.ref C) (some dx) (untr H2 ea)) E0 := by rw [evs, eH1]; exact h
  show wpAny (model X.prog X.w) X.A (call (.ref C) ([] : List Value)) _ _ s
  rw [← eus, ← es1]
  have KX := I1.kIn
  have G : s1.heap.Ns NC (s1.heap.nsMap NC) := .of_isNs (PySem.W.isNs_of_in KX nk)
  have gC := KX _ _ lC
  have ul : us.length ≤ sizeLine := by rw [← r.length]; exact Nat.le_trans zl (by decide)
  obtain ⟨nm, qn, bs, sn, sub, ab, col, dd, k0, k1, k2, k3, k5, eC⟩ := id xC
  subst eC
  obtain ⟨hp, g, d, tk, os⟩ := id s1
  refine wpAny_call_exc_init (h := s1.heap) (g := s1.gens) (d := s1.drawn) (t := s1.toks) (os := s1.os) PySem.F.excBase_Exception gC G (ns_some_of KX G ni) (KX _ _ lI) cI (fun h' ea mk => ?_) ul
  obtain ⟨ta, ge, _, _⟩ := mk.there
  have I2 : Inv X pins σ (upd H1 ea (xo ea C none)) { s1 with heap := h' } := I1.laidAt (t' := s1.toks) mk.keeps mk.new (xo_ok ge)
  have qq := q ea (I1.hok.none_of mk.new)
  have r2 : Vals (V.ref ea :: vs) (Value.ref ea :: us) := .cons rfl r
  have hl : (Value.ref ea :: us ++ []).length = ps.length := by
    have z := r2.length
    rw [F.len _ _ _ _ qq] at z
    rw [List.append_nil]
    exact z.symm
  have bb := hb { s1 with heap := h' } (Value.ref ea :: us) I2.kIn hl
  rw [List.append_nil] at bb
  have old : s0.heap.get? ea = none := by
    cases z : s0.heap.get? ea with
    | none => rfl
    | some o =>
      have e0 : X.s_0.heap.get? ea = some o := by rw [← hX]; exact z
      obtain ⟨o', z'⟩ := I1.base.there ea o e0 (by rw [← hX]; intro z; exact absurd (show ea ∈ ([] : List Addr) from z) (by simp))
      rw [mk.new] at z'
      cases z'
  refine wpAny_call (codeAny_mono (F.run _ X.stack _ _ ⟨Value.ref ea :: us, []⟩ (Value.ref ea :: us) _ _ E0 (hr.make C us []) (I2.env0.make C us []) bb r2 qq) fun rr s' hq' => ?_)
  cases rr with
  | error e' =>
    obtain ⟨_, _, _, _, _, _, _, _, _, _, _, z⟩ := hq'
    exact z.elim
  | ok fl =>
    cases fl with
    | next => exact False.elim hq'
    | brk => exact False.elim hq'
    | cont => exact False.elim hq'
    | ret u =>
      obtain ⟨v, H3, I3, rv, ev, dx, ex3, qE⟩ := I2.after hq'
      subst ev
      obtain ⟨tb, ge3⟩ := xo_get I3.hok ex3
      refine ⟨rv, ea, some dx, tb, _, rfl, xC, I3.kIn _ _ lC, ge3, ?_⟩
      have I4 := inv_untr I3 ex3
      exact thr pins σ _ _ ea dx tb I4 old untr_same ge3 qE
end
/-! ### a tuple of classes that are caught -/
open PySem.W (Looks exmAny exmAny_cons exm_cls) in
def ExmOk (cs : List Value) : Prop := ∀ {M : Model} {K : PySem.W.Frag} {A : Around} {E : Value → Shared → Prop} {Q : Bool → Shared → Prop} {s : Shared} {tp e : Addr} {cls : Value}, K.In s.heap → PySem.W.Looks M s.heap (typeOf (.ref e)) cls → IsTup s.heap tp cs.toArray →
  PySem.W.exmAny K cls cs = some true → Q true s → wpAny M A (excMatches (.ref e) (.ref tp)) Q E s
section
open PySem.W
theorem exm_2 (c1 c2 : Value) : ExmOk [c1, c2] := by
  intro M K A E Q s tp e cls X LT ht hx q
  obtain ⟨o, ho, hc, n, hd⟩ := ht
  obtain ⟨b1, d1, x1, y1, z1⟩ := exmAny_cons hx
  obtain ⟨b2, d2, x2, y2, z2⟩ := exmAny_cons y1
  cases (show some false = some d2 from y2)
  obtain ⟨u1, v1⟩ := exm_cls (M := M) X x1
  obtain ⟨u2, v2⟩ := exm_cls (M := M) X x2
  subst z2
  obtain ⟨hh, g, d, tk, os⟩ := s
  unfold excMatches
  refine wpAny_bind (wpAny_isInstance ⟨o, ho, hc⟩ isSubtype_tuple_tuple ?_)
  dsimp only
  rw [if_pos rfl]
  first
    | refine wpAny_bind (wpAny_seqItems ho hd ?_)
    | refine wpAny_bind (wpAny_bind (wpAny_seqItems ho hd (wpAny_pure ?_)))
  dsimp only [Option.getD_some, Option.getD]
  cases b1 <;> cases b2 <;> first
    | exact absurd z1 (by decide)
    | ((repeat (first | simp only [List.forIn_cons, List.forIn_nil, Bool.not_true, Bool.false_eq_true, if_false, if_true] | lk)); exact q)
theorem exm_3 (c1 c2 c3 : Value) : ExmOk [c1, c2, c3] := by
  intro M K A E Q s tp e cls X LT ht hx q
  obtain ⟨o, ho, hc, n, hd⟩ := ht
  obtain ⟨b1, d1, x1, y1, z1⟩ := exmAny_cons hx
  obtain ⟨b2, d2, x2, y2, z2⟩ := exmAny_cons y1
  obtain ⟨b3, d3, x3, y3, z3⟩ := exmAny_cons y2
  cases (show some false = some d3 from y3)
  obtain ⟨u1, v1⟩ := exm_cls (M := M) X x1
  obtain ⟨u2, v2⟩ := exm_cls (M := M) X x2
  obtain ⟨u3, v3⟩ := exm_cls (M := M) X x3
  subst z3
  subst z2
  obtain ⟨hh, g, d, tk, os⟩ := s
  unfold excMatches
  refine wpAny_bind (wpAny_isInstance ⟨o, ho, hc⟩ isSubtype_tuple_tuple ?_)
  dsimp only
  rw [if_pos rfl]
  first
    | refine wpAny_bind (wpAny_seqItems ho hd ?_)
    | refine wpAny_bind (wpAny_bind (wpAny_seqItems ho hd (wpAny_pure ?_)))
  dsimp only [Option.getD_some, Option.getD]
  cases b1 <;> cases b2 <;> cases b3 <;> first
    | exact absurd z1 (by decide)
    | ((repeat (first | simp only [List.forIn_cons, List.forIn_nil, Bool.not_true, Bool.false_eq_true, if_false, if_true] | lk)); exact q)
end
/-- the clause's expression: a tuple of classes -/
def TupEv (X : Cx) (te : Expr) (cs : List Value) : Prop := ∀ (A' : Around) (pins : List (Addr × Obj)) (σ : St) (H : Hp) (s : Shared) (Q : Value → Shared → Prop) (E : Value → Shared → Prop), Inv (X.held A') pins σ H s →
  Q (.ref s.heap.objs.size) { s with heap := s.heap.push { cls := .type "tuple", data := .seq cs.toArray } } → wpAny (model X.prog X.w) A' (eval te X.env) Q E s
section
variable {X : Cx}
theorem tup_ev2 {x1 x2 : Str} {u1 u2 : Value} {p1 p2 pos : Pos} {k : Nat} (g1 : Gl X x1) (m1 : X.mg x1 = some u1) (g2 : Gl X x2) (m2 : X.mg x2 = some u2)
    (d1 : (x1 == ("__debug__" : Str)) = false := by decide) (d2 : (x2 == ("__debug__" : Str)) = false := by decide) : TupEv X (.Tuple [.Name x1 p1, .Name x2 p2] k pos) [u1, u2] := by
  intro A' pins σ H s Q E I q
  exact Tuple_ (spliced_more (ld_glob (X := X.held A') I g1 m1 (spliced_more (ld_glob (X := X.held A') I g2 m2 (spliced_none (wpAny_newObj_type q)) d2)) d1))
theorem tup_ev3 {x1 x2 x3 : Str} {u1 u2 u3 : Value} {p1 p2 p3 pos : Pos} {k : Nat} (g1 : Gl X x1) (m1 : X.mg x1 = some u1) (g2 : Gl X x2) (m2 : X.mg x2 = some u2) (g3 : Gl X x3) (m3 : X.mg x3 = some u3)
    (d1 : (x1 == ("__debug__" : Str)) = false := by decide) (d2 : (x2 == ("__debug__" : Str)) = false := by decide) (d3 : (x3 == ("__debug__" : Str)) = false := by decide) : TupEv X (.Tuple [.Name x1 p1, .Name x2 p2, .Name x3 p3] k pos) [u1, u2, u3] := by
  intro A' pins σ H s Q E I q
  exact Tuple_ (spliced_more (ld_glob (X := X.held A') I g1 m1 (spliced_more (ld_glob (X := X.held A') I g2 m2 (spliced_more (ld_glob (X := X.held A') I g3 m3 (spliced_none (wpAny_newObj_type q)) d3)) d2)) d1))
end
/-- sp: the promise of f; cs: the classes that are caught; i, j: the slots of x and n; th: the suite -/
def tTry (K : PySem.W.Frag) (cs : List Value) (sp : Sp) (i j : Nat) (t : TA) (th : TS) : TS := fun D σ H => t σ H fun vs H1 => sp vs H1 (fun v H2 => D.nx (σ.set i (some v)) H2)
  (fun cl d H2 => ∃ C dx, cl = .ref C ∧ d = some dx ∧ PySem.W.exmAny K (.ref C) cs = some true ∧ ∀ ea, H2 ea = none → th { nx := fun _ _ => False, rt := D.rt } (σ.set j (some (.ref ea))) (upd H2 ea (xc ea C dx)))
section
variable {X : Cx}
theorem ps_try {f : Addr} {te : Expr} {cs : List Value} {fd : FuncData} {k i j : Nat} {ps : List Str} {sp : Sp} {x fn n : Str} {px pf pc pa ph pos : Pos} {e : Expr} {es : List Expr} {b0 : Stmt} {suite : List Stmt} {t : TA} {th : TS}
    (F : FnOk X.prog X.w X.K X.mg X.base (CXx X.prog X.w) k f fd ps sp) (hr : Room k X.A) (hk : PySem.W.keepIn X.K (.ref f) = true) (hb : Binds X.K fd ps []) (hg : Gl X fn) (hm : X.mg fn = some (.ref f)) (htu : TupEv X te cs) (hxm : ExmOk cs)
    (hex : X.ex = []) (hst : X.stack = X.env :: X.outer) (hfr : X.env.frame = some X.env.locals) (hN : X.N.Nodup) (hi : X.N[i]? = some x) (hj : X.N[j]? = some n) (hx : Loc X.env.scope x) (hn : X.env.scope.names.lookup n = some .local)
    (hfx : X.fn x = true ∨ X.env.scope.names.lookup x = some .local) (hfn : X.fn n = true ∨ X.env.scope.names.lookup n = some .local)
    (ha : PA X.nox (e :: es) t) (hs : ∀ A', PSs (X.held A') (b0 :: suite) th)
    (hdb : (fn == ("__debug__" : Str)) = false := by decide)
    (he : starEach (e :: es) X.env = (false, eval e X.env) :: starEach es X.env := by rfl) (hpl : (backTo pc (starEach es X.env)).any (·.1) = false := by rfl)
    (hsw : swapsWith (.Call (.Name fn pf) (e :: es) [] pc) (some (.Name x px)) pa.line X.env = pure false := by rfl) :
    PS X (.Try [.Assign [.Name x px] (.Call (.Name fn pf) (e :: es) [] pc) pa] [.ExceptHandler (some te) (some n) (b0 :: suite) ph] [] [] pos) (tTry X.K cs sp i j t th) := by
  intro pins s σ H D I h
  refine wpAny_Try_except (wpAny_execs_cons ?_)
  refine wpAny_Assign_Name (wpAny_Call_Name_kw (ld_glob I hg hm ?_ hdb)) hsw
  refine PySem.W.callWith_K (h₀ := X.base) I.ok.mod.kin hk (wpAny_mono (ha pc pins s σ H _ (I.wish _) h) (fun us s1 q0 => ?_) fun _ _ z => False.elim z) he hpl
  obtain ⟨vs, H1, I1, r, q⟩ := q0
  have I1 := I1.unwish
  refine ⟨I1.kIn, ?_⟩
  have hl : (us ++ []).length = ps.length := by rw [List.append_nil, ← r.length]; exact F.len _ _ _ _ q
  have bb := hb s1 us I1.kIn hl
  rw [List.append_nil] at bb
  refine wpAny_call (codeAny_mono (F.run X.A X.stack s1 H1 ⟨us, []⟩ us vs _ _ hr I1.env0 bb r q) fun rr s' hq => ?_)
  cases rr with
  | ok fl =>
    cases fl with
    | next => exact False.elim hq
    | brk => exact False.elim hq
    | cont => exact False.elim hq
    | ret u =>
      obtain ⟨v, H2, I2, rv, q2⟩ := I1.after hq
      exact store_ok I2 hN hi hx rv (fun s3 I3 => wpAny_execs_nil (wpAny_execs_nil ⟨_, H2, I3, q2⟩)) hfx
  | error ev =>
    obtain ⟨ea, C, dx, T, H', rfl, os, bare, un, hok, fl, C', dx', eC, ed, hxx, q2⟩ := hq
    cases eC
    cases ed
    have I2 := I1.call' (ch := []) os un hok bare (fun b z => absurd z (by simp))
    have ae : Apart X pins ea := I1.apart (H' := H') (s' := s') hex fl.new
    have aT : Apart X pins T := I1.apart (H' := H') (s' := s') hex fl.newT
    obtain ⟨ws, sl, ge, h1⟩ := fl.exc
    obtain ⟨oT, ts, gT, dT, h3⟩ := fl.tb
    have hfr' : X.A.frames = some (X.env :: X.outer) := by rw [← hst]; exact I.ok.frames
    have hfl : s'.heap.FunFrames X.base (X.env :: X.outer) := by rw [← hst]; exact I2.stack
    have sz : 1 < ws.size := (Array.getElem?_eq_some_iff.mp h1).1
    refine note_x hfr' hfl hfr ge rfl h1 (.inr ⟨T, oT, ts, rfl, fl.ne, gT, dT, h3⟩) fun h2 T2 x2 => ?_
    refine land_x (s := { s' with heap := h2 }) sz x2 (lt_of_new x2) ⟨_, ge⟩ fun h4 x4 => ?_
    have x4' : LeftX s'.heap h4 (frs X.stack) ea (.ref T) .none T2 { cls := .ref C, dict := some dx, data := .fields ws, slots := sl } ws := by rw [hst]; exact x4
    have I4 := I2.noted hex x4' ae fl.un fun b z => by cases z; exact ⟨aT, fl.unT⟩
    have ge4 := x4.exc
    obtain ⟨oT4, ts4, gT4, dT4, h34⟩ := x4.tb
    have I4h := I4.held (A' := X.A.mark (some (.ref ea))) rfl
    refine wpAny_handleBy_cons (codeAny_handlers_test (htu _ pins σ H' _ _ _ I4h ?_)) (by intro z; cases z)
    generalize hob : ({ cls := .type "tuple", data := .seq cs.toArray } : Obj) = ob
    have I4p : Inv X pins σ H' { s' with heap := h4.push ob } := I4.kept (t' := s'.toks) fun b o q => Heap.get?_push_of_some _ q
    have I4q := I4p.held (A' := X.A.mark (some (.ref ea))) rfl
    have ge5 : (h4.push ob).get? ea = some _ := Heap.get?_push_of_some ob ge4
    have gT5 : (h4.push ob).get? T2 = some oT4 := Heap.get?_push_of_some ob gT4
    have LT : PySem.W.Looks (model X.prog X.w) (h4.push ob) (typeOf (.ref ea)) (.ref C) := (PySem.W.Looks.ld ge5).andThen .now
    refine hxm (s := { s' with heap := h4.push ob }) (K := X.K) I4p.kIn LT (by rw [← hob]; exact IsTup.new _ _) hxx (codeAny_handlers_suite_as ?_)
    refine wpAny_setFlight_none ge5 rfl (tb := T2) (by simp [sz]) gT5 dT4 (Array.getElem?_eq_some_iff.mp h34).1 ?_
    dsimp only
    rw [Heap.update_setField_same _ _ _ _ _ _ gT5 dT4 h34]
    have hu := q2 ea fl.un
    have I5 := Inv.track (o := xc ea C dx) I4q ⟨ae.old, ae.loc, ae.cel, ae.pin⟩ fl.un (xc_ok ge5)
    refine store_ok (X := X.held (X.A.mark (some (.ref ea)))) I5 hN hj (.inl hn) (show RelV (.ref ea) (Value.ref ea) from rfl) (fun s6 I6 => ?_) hfn
    refine wpAny_mono (hs _ pins s6 _ _ _ I6 hu) (fun fl7 s7 q7 => ?_) fun _ _ z => False.elim z
    cases fl7 with
    | next =>
      obtain ⟨_, _, _, z⟩ := q7
      exact z.elim
    | brk =>
      obtain ⟨_, _, _, z⟩ := q7
      exact z.elim
    | cont =>
      obtain ⟨_, _, _, z⟩ := q7
      exact z.elim
    | ret u =>
      obtain ⟨v, σ7, H7, I7, r7, z7⟩ := q7
      have I8 := I4.unheld I7
      obtain ⟨m8, hn8, _⟩ := I8.loc
      refine wpAny_nameGoes hn hn8 (by rw [I.ok.kind]; rfl) fun h9 m9 hn9 sb => ?_
      exact ⟨v, _, H7, I8.forget hn9 sb, r7, z7⟩
end
end L2
end
section
set_option Elab.async false
set_option linter.all false
set_option maxRecDepth 100000
namespace L2
open PySem PySem.Spec PyProof.Rows
/-! ### readings that come to one value and leave the heap -/
def Val (t : TE) (σ : St) (H : Hp) (v : V) : Prop := ∀ Q : VK, Q v H → t σ H Q
def Tst (t : TT) (σ : St) (H : Hp) (c : Bool) : Prop := ∀ Q : Bool → Hp → Prop, Q c H → t σ H Q
def Vls (t : TA) (σ : St) (H : Hp) (vs : List V) : Prop := ∀ Q : List V → Hp → Prop, Q vs H → t σ H Q
section
variable {σ : St} {H : Hp} {ta tb tc : TE} {K : PySem.W.Frag}
theorem val_var {i : Nat} {v : V} (h : σ[i]? = some (some v)) : Val (tVar i) σ H v := fun _ q => ⟨v, h, q⟩
theorem val_c {v : V} : Val (tC v) σ H v := fun _ q => q
theorem val_fld {f : Str} {a C dx : Addr} {fs : List (Str × V)} {v : V} (ha : Val ta σ H (.ref a)) (ho : H a = some (.ins C dx fs)) (c : Cls K C) (n : NoAttr K C f) (l : fs.lookup f = some v) : Val (tFld K ta f) σ H v :=
  fun _ q => ha _ ⟨a, C, dx, fs, v, rfl, ho, c, n, l, q⟩
theorem val_op {r : R2} {x y v : V} (ha : Val ta σ H x) (hb : Val tb σ H y) (hr : ∀ Q : VK, Q v H → r x y H Q) : Val (tOp r ta tb) σ H v := fun _ q => ha _ (hb _ (hr _ q))
theorem val_i {f : Int → Int → V} {i j : Int} (ha : Val ta σ H (.int i)) (hb : Val tb σ H (.int j)) : Val (tOp (rI0 f) ta tb) σ H (f i j) := val_op ha hb fun _ q => ⟨i, j, rfl, rfl, q⟩
theorem val_add {i j : Int} (ha : Val ta σ H (.int i)) (hb : Val tb σ H (.int j)) : Val (tOp (rI0 fun i j => .int (i + j)) ta tb) σ H (.int (i + j)) := val_op ha hb fun _ q => ⟨i, j, rfl, rfl, q⟩
theorem val_sub {i j : Int} (ha : Val ta σ H (.int i)) (hb : Val tb σ H (.int j)) : Val (tOp (rI0 fun i j => .int (i - j)) ta tb) σ H (.int (i - j)) := val_op ha hb fun _ q => ⟨i, j, rfl, rfl, q⟩
theorem val_mul {i j : Int} (ha : Val ta σ H (.int i)) (hb : Val tb σ H (.int j)) (h : CMul i j) : Val (tOp (rI CMul fun i j => .int (i * j)) ta tb) σ H (.int (i * j)) := val_op ha hb fun _ q => ⟨i, j, rfl, rfl, h, q⟩
theorem val_div {i j : Int} (ha : Val ta σ H (.int i)) (hb : Val tb σ H (.int j)) (h : CDiv i j) : Val (tOp (rI CDiv fun i j => .int (i / j)) ta tb) σ H (.int (i / j)) := val_op ha hb fun _ q => ⟨i, j, rfl, rfl, h, q⟩
theorem val_call {r : List V → Hp → VK → Prop} {t : TA} {vs : List V} {v : V} (ha : Vls t σ H vs) (hr : ∀ Q : VK, Q v H → r vs H Q) : Val (tCB r t) σ H v := fun _ q => ha _ (hr _ q)
theorem vls_nil : Vls tNil σ H [] := fun _ q => q
theorem vls_cons {t : TA} {v : V} {vs : List V} (ha : Val ta σ H v) (hr : Vls t σ H vs) : Vls (tCons ta t) σ H (v :: vs) := fun _ q => ha _ (hr _ q)
theorem val_meth {C a dx : Addr} {m : Str} {sp : Sp} {E : XK} {t : TA} {fs : List (Str × V)} {vs : List V} {v : V} (ha : Val ta σ H (.ref a)) (ho : H a = some (.ins C dx fs)) (l : fs.lookup m = none) (hs : Vls t σ H vs)
    (h : ∀ Q : VK, Q v H → sp (.ref a :: (vs ++ [])) H Q E) : Val (tMeth C m sp [] E ta t) σ H v := fun _ q => ha _ ⟨a, dx, fs, rfl, ho, l, hs _ (h _ q)⟩
/-- a method call, whatever it does -/
theorem to_meth {C a dx : Addr} {m : Str} {sp : Sp} {E : XK} {t : TA} {fs : List (Str × V)} {vs : List V} {Q : VK} (ha : Val ta σ H (.ref a)) (ho : H a = some (.ins C dx fs)) (l : fs.lookup m = none) (hs : Vls t σ H vs)
    (h : sp (.ref a :: (vs ++ [])) H Q E) : tMeth C m sp [] E ta t σ H Q := ha _ ⟨a, dx, fs, rfl, ho, l, hs _ h⟩
theorem to_call {sp : Sp} {E : XK} {t : TA} {vs : List V} {Q : VK} (hs : Vls t σ H vs) (h : sp (vs ++ []) H Q E) : tCall sp [] E t σ H Q := hs _ h
theorem to_ret {D : Ends} {v : V} (h : Val ta σ H v) (q : D.rt v H) : tRet ta D σ H := h _ q
theorem to_set {i : Nat} {D : Ends} {v : V} (h : Val ta σ H v) (q : D.nx (σ.set i (some v)) H) : tAsg ta (gName i) D σ H := h _ q
/-! tests -/
theorem tst_val {c : Bool} (h : Val ta σ H (.bl c)) : Tst (tTest ta) σ H c := fun _ q => h _ ⟨c, rfl, q⟩
theorem tst_bl {c : Bool} (h : Val ta σ H (.bl c)) : Tst (tB ta) σ H c := fun _ q => h _ ⟨c, rfl, q⟩
theorem tst_eqI {i j : Int} (ha : Val ta σ H (.int i)) (hb : Val tb σ H (.int j)) : Tst (tTest (tOp rEq ta tb)) σ H (decide (i = j)) :=
  tst_val (val_op ha hb fun _ q => ⟨rfl, by rw [dec_int, Bool.beq_eq_decide_eq]; exact q⟩)
theorem tst_neI {i j : Int} (ha : Val ta σ H (.int i)) (hb : Val tb σ H (.int j)) : Tst (tTest (tOp rNe ta tb)) σ H (!decide (i = j)) :=
  tst_val (val_op ha hb fun _ q => ⟨rfl, by rw [dec_int, Bool.beq_eq_decide_eq]; exact q⟩)
theorem tst_i {p : Int → Int → Bool} {i j : Int} (ha : Val ta σ H (.int i)) (hb : Val tb σ H (.int j)) : Tst (tTest (tOp (rI0 fun i j => .bl (p i j)) ta tb)) σ H (p i j) := tst_val (val_i (f := fun i j => .bl (p i j)) ha hb)
theorem tst_in {neg : Bool} {x : V} {p : Addr} {xs : List V} (ha : Val ta σ H x) (hb : Val tb σ H (.ref p)) (hs : SqL K H p xs ∨ SqT K H p xs) (f1 : flatV x = true) (f2 : xs.all flatV = true) : Tst (tTest (tOp (rIn K neg) ta tb)) σ H (if neg then !inV x xs else inV x xs) :=
  tst_val (val_op ha hb fun _ q => ⟨p, xs, rfl, hs, f1, f2, q⟩)
theorem tst_chain {p p' : Int → Int → Bool} {i j k : Int} (ha : Val ta σ H (.int i)) (hb : Val tb σ H (.int j)) (hc : Val tc σ H (.int k)) :
    Tst (tTest (tChain (rI0 fun i j => .bl (p i j)) (rI0 fun i j => .bl (p' i j)) ta tb tc)) σ H (p i j && p' j k) := by
  refine tst_val fun Q q => ha _ (hb _ ⟨i, j, rfl, rfl, p i j, rfl, ?_⟩)
  cases e : p i j with
  | true =>
    rw [if_pos rfl]
    rw [e, Bool.true_and] at q
    exact hc _ ⟨j, k, rfl, rfl, q⟩
  | false =>
    rw [if_neg Bool.false_ne_true]
    rw [e, Bool.false_and] at q
    exact q
theorem tst_or {t u : TT} {c d : Bool} (ht : Tst t σ H c) (hu : c = false → Tst u σ H d) : Tst (tOr t u) σ H (c || d) := fun Q q => ht _ (by
  cases c with
  | true => rw [if_pos rfl]; exact q
  | false => rw [if_neg Bool.false_ne_true]; exact hu rfl _ q)
theorem tst_and {t u : TT} {c d : Bool} (ht : Tst t σ H c) (hu : c = true → Tst u σ H d) : Tst (tAnd t u) σ H (c && d) := fun Q q => ht _ (by
  cases c with
  | true => rw [if_pos rfl]; exact hu rfl _ q
  | false => rw [if_neg Bool.false_ne_true]; exact q)
theorem tst_not {t : TT} {c : Bool} (ht : Tst t σ H c) : Tst (tNot t) σ H (!c) := fun Q q => ht _ q
theorem to_if {tt : TT} {t u : TS} {D : Ends} {c : Bool} (ht : Tst tt σ H c) (h1 : c = true → t D σ H) (h2 : c = false → u D σ H) : tIfS tt t u D σ H := ht _ (by
  cases c with
  | true => rw [if_pos rfl]; exact h1 rfl
  | false => rw [if_neg Bool.false_ne_true]; exact h2 rfl)
theorem val_if {tt : TT} {t u : TE} {c : Bool} {v : V} (ht : Tst tt σ H c) (h1 : c = true → Val t σ H v) (h2 : c = false → Val u σ H v) : Val (tIf tt t u) σ H v := fun Q q => ht _ (by
  cases c with
  | true => rw [if_pos rfl]; exact h1 rfl _ q
  | false => rw [if_neg Bool.false_ne_true]; exact h2 rfl _ q)
/-- a while: W m is what holds with measure m -/
theorem to_while {c : TT} {tb : TS} {D : Ends} (W : Nat → St → Hp → Prop) {m : Nat} (h0 : W m σ H)
    (hs : ∀ m σ H, W m σ H → ∃ b : Bool, Tst c σ H b ∧ (b = true → tb { D with nx := fun σ' H' => ∃ m', m' < m ∧ W m' σ' H', ct := fun σ' H' => ∃ m', m' < m ∧ W m' σ' H', bk := D.nx } σ H) ∧ (b = false → D.nx σ H)) : tWhile c tb D σ H := by
  refine ⟨W, ⟨m, h0⟩, fun m σ H h => ?_⟩
  obtain ⟨b, ht, h1, h2⟩ := hs m σ H h
  refine ht _ ?_
  cases b with
  | true => rw [if_pos rfl]; exact ⟨_, fun _ _ z => z, h1 rfl⟩
  | false => rw [if_neg Bool.false_ne_true]; exact h2 rfl
end
end L2
end
section
set_option autoImplicit false
namespace Desk
open Quire QuireSeen

/-- the byte at a place, as the program reads it: -1 at the end -/
def byteAt (bs : Bytes) (p : Nat) : Int := match bs[p]? with
  | some c => (c.toNat : Int)
  | none => -1

theorem drop_nil {bs : Bytes} {p : Nat} (h : bs[p]? = none) : bs.drop p = [] := by
  rw [List.drop_eq_nil_iff]; exact List.getElem?_eq_none_iff.mp h
theorem drop_cons {bs : Bytes} {p : Nat} {c : UInt8} (h : bs[p]? = some c) : bs.drop p = c :: bs.drop (p + 1) := by
  obtain ⟨hl, e⟩ := List.getElem?_eq_some_iff.mp h
  rw [← e]; exact List.drop_eq_getElem_cons hl
theorem byteAt_none {bs : Bytes} {p : Nat} (h : bs[p]? = none) : byteAt bs p = -1 := by simp [byteAt, h]
theorem byteAt_some {bs : Bytes} {p : Nat} {c : UInt8} (h : bs[p]? = some c) : byteAt bs p = (c.toNat : Int) := by simp [byteAt, h]
theorem byteAt_ge (bs : Bytes) (p : Nat) : -1 ≤ byteAt bs p := by
  unfold byteAt; split <;> omega
theorem byteAt_le (bs : Bytes) (p : Nat) : byteAt bs p ≤ 255 := by
  unfold byteAt; split
  · rename_i c _; have := c.toNat_lt; omega
  · omega
theorem u8_eq {c d : UInt8} : c = d ↔ c.toNat = d.toNat := UInt8.toNat_inj.symm

theorem digit_some {c : UInt8} (h : 48 ≤ c.toNat) (h2 : c.toNat ≤ 57) : digit c = some (c.toNat - 48) := by
  unfold digit
  rw [if_pos ⟨UInt8.le_iff_toNat_le.mpr h, UInt8.le_iff_toNat_le.mpr h2⟩]
theorem digit_none {c : UInt8} (h : ¬ (48 ≤ c.toNat ∧ c.toNat ≤ 57)) : digit c = none := by
  unfold digit
  rw [if_neg]
  rintro ⟨z1, z2⟩
  have y1 : (48 : UInt8).toNat ≤ c.toNat := UInt8.le_iff_toNat_le.mp z1
  have y2 : c.toNat ≤ (57 : UInt8).toNat := UInt8.le_iff_toNat_le.mp z2
  exact h ⟨y1, y2⟩

/-- a number from its start p, when one stands at q and has w -/
def numFrom (bs : Bytes) (p q w : Nat) : Rd Nat :=
  if q = p then number p (bs.drop p) else if w = 0 then moreDigits 0 0 q (bs.drop q) else moreDigits (p + 3 - q) w q (bs.drop q)

theorem more_nil (f n p : Nat) : moreDigits f n p [] = .ok (n, p, []) := by cases f <;> rfl
theorem more_stop (f n p : Nat) {c : UInt8} (r : Bytes) (h : digit c = none) : moreDigits f n p (c :: r) = .ok (n, p, c :: r) := by
  cases f <;> simp [moreDigits, h]
theorem more_zero (n p : Nat) {c : UInt8} (r : Bytes) {x : Nat} (h : digit c = some x) : moreDigits 0 n p (c :: r) = .error p := by
  simp [moreDigits, h]
theorem more_succ (f n p : Nat) {c : UInt8} (r : Bytes) {x : Nat} (h : digit c = some x) : moreDigits (f + 1) n p (c :: r) = moreDigits f (10 * n + x) (p + 1) r := by
  simp [moreDigits, h]

theorem numFrom_start (bs : Bytes) (p : Nat) : numFrom bs p p 0 = number p (bs.drop p) := by simp [numFrom]

/-- no digit stands at q: the number has ended -/
theorem numFrom_end {bs : Bytes} {p q w : Nat} (hpq : p ≤ q) (h : ¬ (48 ≤ byteAt bs q ∧ byteAt bs q ≤ 57)) :
    numFrom bs p q w = if q = p then .error p else .ok (w, q, bs.drop q) := by
  cases hb : bs[q]? with
  | none =>
    rw [numFrom, drop_nil hb]
    by_cases e : q = p
    · subst e; rw [if_pos rfl, if_pos rfl, drop_nil hb]; rfl
    · rw [if_neg e, if_neg e]
      by_cases hw : w = 0
      · rw [if_pos hw, more_nil, hw]
      · rw [if_neg hw, more_nil]
  | some c =>
    rw [byteAt_some hb] at h
    have hd : digit c = none := digit_none (by omega)
    rw [numFrom, drop_cons hb]
    by_cases e : q = p
    · subst e; rw [if_pos rfl, if_pos rfl, drop_cons hb]; simp [number, hd]
    · rw [if_neg e, if_neg e]
      by_cases hw : w = 0
      · rw [if_pos hw, more_stop _ _ _ _ hd, hw]
      · rw [if_neg hw, more_stop _ _ _ _ hd]

/-- a digit stands at q where none can -/
theorem numFrom_fault {bs : Bytes} {p q w : Nat} (hpq : p ≤ q) (h : 48 ≤ byteAt bs q ∧ byteAt bs q ≤ 57) (hq : q = p + 3 ∨ (p < q ∧ w = 0)) : numFrom bs p q w = .error q := by
  cases hb : bs[q]? with
  | none => rw [byteAt_none hb] at h; omega
  | some c =>
    rw [byteAt_some hb] at h
    have hd : digit c = some (c.toNat - 48) := digit_some (by omega) (by omega)
    have e : q ≠ p := by omega
    rw [numFrom, if_neg e, drop_cons hb]
    by_cases hw : w = 0
    · rw [if_pos hw, more_zero _ _ _ hd]
    · rw [if_neg hw, show p + 3 - q = 0 by omega, more_zero _ _ _ hd]

/-- a digit more -/
theorem numFrom_step {bs : Bytes} {p q w : Nat} (hpq : p ≤ q) (h : 48 ≤ byteAt bs q ∧ byteAt bs q ≤ 57) (hq : ¬ (q = p + 3 ∨ (p < q ∧ w = 0))) (hle : q ≤ p + 3) (hw0 : q = p → w = 0) :
    numFrom bs p q w = numFrom bs p (q + 1) (w * 10 + (byteAt bs q - 48).toNat) := by
  cases hb : bs[q]? with
  | none => rw [byteAt_none hb] at h; omega
  | some c =>
    rw [byteAt_some hb] at h ⊢
    have hd : digit c = some (c.toNat - 48) := digit_some (by omega) (by omega)
    have ex : ((c.toNat : Int) - 48).toNat = c.toNat - 48 := by omega
    rw [ex]
    by_cases e : q = p
    · subst e
      rw [hw0 rfl, Nat.zero_mul, Nat.zero_add]
      rw [numFrom, if_pos rfl, numFrom, if_neg (by omega), drop_cons hb]
      by_cases hx : c.toNat - 48 = 0
      · rw [if_pos hx]
        simp only [number, hd, hx]
        cases hb2 : bs[q + 1]? with
        | none => rw [drop_nil hb2]; rfl
        | some d =>
          rw [drop_cons hb2]
          cases hd2 : digit d with
          | none => rw [more_stop _ _ _ _ hd2]; simp [hd2]
          | some y => rw [more_zero _ _ _ hd2]; simp [hd2]
      · rw [if_neg hx]
        obtain ⟨m, hm⟩ : ∃ m, c.toNat - 48 = m + 1 := ⟨c.toNat - 48 - 1, by omega⟩
        simp only [number, hd, hm, show q + 3 - (q + 1) = 2 by omega]
    · have hw : w ≠ 0 := fun z => hq (.inr ⟨by omega, z⟩)
      have hw' : w * 10 + (c.toNat - 48) ≠ 0 := by omega
      rw [numFrom, if_neg e, if_neg hw, numFrom, if_neg (by omega), if_neg hw', drop_cons hb]
      obtain ⟨f, hf⟩ : ∃ f, p + 3 - q = f + 1 := ⟨p + 3 - q - 1, by omega⟩
      rw [hf, more_succ _ _ _ _ hd, show p + 3 - (q + 1) = f by omega, Nat.mul_comm]

/-! ### the place behind what was read, and what is left there -/
/-- what a reading leaves is the text from its place on, and it went on by one byte at least -/
def Suf {α : Type} (bs : Bytes) (p : Nat) (r : Rd α) : Prop := match r with
  | .ok (_, q, u) => u = bs.drop q ∧ p < q ∧ q ≤ bs.length
  | .error e => p ≤ e ∧ e ≤ bs.length
theorem Suf.ok {α : Type} {bs : Bytes} {p q : Nat} {x : α} {u : Bytes} {r : Rd α} (h : Suf bs p r) (e : r = .ok (x, q, u)) : u = bs.drop q ∧ p < q ∧ q ≤ bs.length := by subst e; exact h

theorem suf_more {bs : Bytes} : ∀ (f n p : Nat), p ≤ bs.length → (match moreDigits f n p (bs.drop p) with | .ok (_, q, u) => u = bs.drop q ∧ p ≤ q ∧ q ≤ bs.length | .error e => p ≤ e ∧ e ≤ bs.length)
  | f, n, p, hp => by
    cases hb : bs[p]? with
    | none => rw [drop_nil hb, more_nil]; exact ⟨(drop_nil hb).symm, Nat.le_refl _, hp⟩
    | some c =>
      have hl : p < bs.length := (List.getElem?_eq_some_iff.mp hb).1
      rw [drop_cons hb]
      cases hd : digit c with
      | none => rw [more_stop _ _ _ _ hd]; exact ⟨(drop_cons hb).symm, Nat.le_refl _, hp⟩
      | some x =>
        cases f with
        | zero => rw [more_zero _ _ _ hd]; exact ⟨Nat.le_refl _, hp⟩
        | succ f =>
          rw [more_succ _ _ _ _ hd]
          have ih := suf_more f (10 * n + x) (p + 1) hl
          split at ih
          · exact ⟨ih.1, by omega, ih.2.2⟩
          · exact ⟨by omega, ih.2⟩
theorem suf_number {bs : Bytes} {p : Nat} (hp : p ≤ bs.length) : Suf bs p (number p (bs.drop p)) := by
  cases hb : bs[p]? with
  | none => rw [drop_nil hb]; exact ⟨Nat.le_refl _, hp⟩
  | some c =>
    have hl : p < bs.length := (List.getElem?_eq_some_iff.mp hb).1
    rw [drop_cons hb]
    cases hd : digit c with
    | none => simp only [number, hd]; exact ⟨Nat.le_refl _, hp⟩
    | some x =>
      cases x with
      | zero =>
        simp only [number, hd]
        cases hb2 : bs[p + 1]? with
        | none => rw [drop_nil hb2]; exact ⟨(drop_nil hb2).symm, by omega, hl⟩
        | some d =>
          rw [drop_cons hb2]
          dsimp only
          split
          · exact ⟨by omega, hl⟩
          · exact ⟨(drop_cons hb2).symm, by omega, hl⟩
      | succ x =>
        simp only [number, hd]
        have ih := suf_more (bs := bs) 2 (x + 1) (p + 1) hl
        split at ih <;> rename_i e <;> rw [e]
        · exact ⟨ih.1, by omega, ih.2.2⟩
        · exact ⟨by omega, ih.2⟩

/-- a number from lo to hi -/
def numB (lo hi p : Nat) (t : Bytes) : Rd Nat := match number p t with
  | .error e => .error e
  | .ok (l, q, r) => if lo ≤ l ∧ l ≤ hi then .ok (l, q, r) else .error p
theorem leafAt_eq (n p : Nat) (t : Bytes) : leafAt n p t = numB 1 n p t := by
  unfold leafAt numB isLeafOf
  cases number p t with
  | error e => rfl
  | ok x =>
    obtain ⟨l, q, r⟩ := x
    by_cases h : 1 ≤ l ∧ l ≤ n
    · simp [h.1, h.2]
    · dsimp only
      rw [if_neg h, if_neg (by simpa using h)]
theorem suf_numB {bs : Bytes} {lo hi p : Nat} (hp : p ≤ bs.length) : Suf bs p (numB lo hi p (bs.drop p)) := by
  have h := suf_number hp
  unfold numB
  cases e : number p (bs.drop p) with
  | error z => rw [e] at h; exact h
  | ok x =>
    obtain ⟨l, q, r⟩ := x
    rw [e] at h
    dsimp only
    split
    · exact h
    · exact ⟨Nat.le_refl _, hp⟩

/-- one of these signs -/
def needAt (cs : List Nat) (p : Nat) : Bytes → Rd UInt8
  | [] => .error p
  | c :: r => if c.toNat ∈ cs then .ok (c, p + 1, r) else .error p
theorem need_cons (cs : List Nat) (p : Nat) (c : UInt8) (r : Bytes) : needAt cs p (c :: r) = if c.toNat ∈ cs then .ok (c, p + 1, r) else .error p := rfl
theorem char_cons (x : UInt8) (p : Nat) (c : UInt8) (r : Bytes) : charAt x p (c :: r) = if c = x then .ok ((), p + 1, r) else .error p := rfl
theorem letter_cons (p : Nat) (c : UInt8) (r : Bytes) : letterAt p (c :: r) = if c = 97 then .ok (false, p + 1, r) else if c = 98 then .ok (true, p + 1, r) else .error p := rfl
theorem suf_need {bs : Bytes} {cs : List Nat} {p : Nat} (hp : p ≤ bs.length) : Suf bs p (needAt cs p (bs.drop p)) := by
  cases hb : bs[p]? with
  | none => rw [drop_nil hb]; exact ⟨Nat.le_refl _, hp⟩
  | some c =>
    have hl : p < bs.length := (List.getElem?_eq_some_iff.mp hb).1
    rw [drop_cons hb, need_cons]
    split
    · exact ⟨rfl, by omega, hl⟩
    · exact ⟨Nat.le_refl _, hp⟩
theorem charAt_eq (x : UInt8) (p : Nat) (t : Bytes) : charAt x p t = match needAt [x.toNat] p t with | .ok (_, q, u) => .ok ((), q, u) | .error e => .error e := by
  cases t with
  | nil => rfl
  | cons c r =>
    rw [char_cons, need_cons]
    by_cases h : c = x
    · subst h; simp
    · rw [if_neg h, if_neg (by simpa [u8_eq] using h)]
theorem letterAt_eq (p : Nat) (t : Bytes) : letterAt p t = match needAt [97, 98] p t with | .ok (c, q, u) => .ok (c.toNat == 98, q, u) | .error e => .error e := by
  cases t with
  | nil => rfl
  | cons c r =>
    rw [letter_cons, need_cons]
    by_cases h : c = 97
    · subst h; simp
    · rw [if_neg h]
      by_cases h2 : c = 98
      · subst h2; simp
      · rw [if_neg h2, if_neg]
        intro z
        simp only [List.mem_cons, List.not_mem_nil, or_false] at z
        rcases z with z | z
        · exact h (u8_eq.mpr z)
        · exact h2 (u8_eq.mpr z)
end Desk
end
section
set_option autoImplicit false
namespace Desk
open Quire QuireSeen
/-- one reading behind another -/
def bnd {α β : Type} (r : Rd α) (k : α → Nat → Bytes → Rd β) : Rd β := match r with
  | .error e => .error e
  | .ok (x, q, u) => k x q u
theorem bnd_ok {α β : Type} (x : α) (q : Nat) (u : Bytes) (k : α → Nat → Bytes → Rd β) : bnd (.ok (x, q, u)) k = k x q u := rfl
theorem bnd_err {α β : Type} (e : Nat) (k : α → Nat → Bytes → Rd β) : bnd (.error e) k = .error e := rfl
theorem bnd_bnd {α β γ : Type} (r : Rd α) (k : α → Nat → Bytes → Rd β) (m : β → Nat → Bytes → Rd γ) : bnd (bnd r k) m = bnd r fun x q u => bnd (k x q u) m := by
  cases r with
  | error e => rfl
  | ok z => rfl
theorem bnd_if {α β : Type} (c : Prop) [Decidable c] (r s : Rd α) (k : α → Nat → Bytes → Rd β) : bnd (if c then r else s) k = if c then bnd r k else bnd s k := by
  split <;> rfl
theorem suf_bnd {α β : Type} {bs : Bytes} {p : Nat} {r : Rd α} {k : α → Nat → Bytes → Rd β} (h : Suf bs p r) (hk : ∀ x q, p < q → q ≤ bs.length → r = .ok (x, q, bs.drop q) → Suf bs p (k x q (bs.drop q))) : Suf bs p (bnd r k) := by
  cases e : r with
  | error z => rw [e] at h; exact h
  | ok z =>
    obtain ⟨x, q, u⟩ := z
    obtain ⟨h1, h2, h3⟩ := h.ok e
    subst h1
    exact hk x q h2 h3 e
theorem Suf.mono {α : Type} {bs : Bytes} {p q : Nat} {r : Rd α} (h : Suf bs q r) (hpq : p ≤ q) : Suf bs p r := by
  cases e : r with
  | error z => rw [e] at h; exact ⟨Nat.le_trans hpq h.1, h.2⟩
  | ok z =>
    obtain ⟨x, q', u⟩ := z
    obtain ⟨h1, h2, h3⟩ := h.ok e
    exact ⟨h1, by omega, h3⟩

theorem charAt_bnd (x : UInt8) (p : Nat) (t : Bytes) : charAt x p t = bnd (needAt [x.toNat] p t) fun _ q u => .ok ((), q, u) := by
  rw [charAt_eq]
  rcases needAt [x.toNat] p t with e | ⟨c, q, u⟩ <;> rfl
theorem letterAt_bnd (p : Nat) (t : Bytes) : letterAt p t = bnd (needAt [97, 98] p t) fun c q u => .ok (c.toNat == 98, q, u) := by
  rw [letterAt_eq]
  rcases needAt [97, 98] p t with e | ⟨c, q, u⟩ <;> rfl
theorem sideAt_bnd (n p : Nat) (t : Bytes) : sideAt n p t = bnd (numB 1 n p t) fun l q r => bnd (letterAt q r) fun b q r => .ok (⟨l, b⟩, q, r) := by
  rw [← leafAt_eq]
  unfold sideAt
  rcases leafAt n p t with e | ⟨l, q, r⟩
  · rfl
  · dsimp only [bnd]
    rcases letterAt q r with e | ⟨b, q, r⟩ <;> rfl
theorem suf_char {bs : Bytes} {x : UInt8} {p : Nat} (hp : p ≤ bs.length) : Suf bs p (charAt x p (bs.drop p)) := by
  rw [charAt_bnd]
  exact suf_bnd (suf_need hp) fun _ q h1 h2 _ => ⟨rfl, h1, h2⟩
theorem suf_letter {bs : Bytes} {p : Nat} (hp : p ≤ bs.length) : Suf bs p (letterAt p (bs.drop p)) := by
  rw [letterAt_bnd]
  exact suf_bnd (suf_need hp) fun _ q h1 h2 _ => ⟨rfl, h1, h2⟩
theorem suf_side {bs : Bytes} {n p : Nat} (hp : p ≤ bs.length) : Suf bs p (sideAt n p (bs.drop p)) := by
  rw [sideAt_bnd]
  exact suf_bnd (suf_numB hp) fun l q h1 h2 _ => suf_bnd ((suf_letter h2).mono (Nat.le_of_lt h1)) fun b q' h3 h4 _ => ⟨rfl, h3, h4⟩
theorem suf_leaf {bs : Bytes} {n p : Nat} (hp : p ≤ bs.length) : Suf bs p (leafAt n p (bs.drop p)) := by rw [leafAt_eq]; exact suf_numB hp

/-- what a number from lo to hi is -/
theorem numB_ok {lo hi p q l : Nat} {t u : Bytes} (h : numB lo hi p t = .ok (l, q, u)) : lo ≤ l ∧ l ≤ hi := by
  unfold numB at h
  cases e : number p t with
  | error z => rw [e] at h; cases h
  | ok z =>
    obtain ⟨l', q', u'⟩ := z
    rw [e] at h
    dsimp only at h
    split at h
    · rename_i c
      cases h
      exact c
    · cases h
theorem leaf_ok {n p q l : Nat} {t u : Bytes} (h : leafAt n p t = .ok (l, q, u)) : 1 ≤ l ∧ l ≤ n := by
  rw [leafAt_eq] at h
  exact numB_ok h
theorem side_ok {n p q : Nat} {s : Side} {t u : Bytes} (h : sideAt n p t = .ok (s, q, u)) : 1 ≤ s.leaf ∧ s.leaf ≤ n := by
  rw [sideAt_bnd] at h
  cases e : numB 1 n p t with
  | error z => rw [e] at h; cases h
  | ok z =>
    obtain ⟨l, q', u'⟩ := z
    rw [e, bnd_ok] at h
    cases e2 : letterAt q' u' with
    | error z => rw [e2] at h; cases h
    | ok z2 =>
      obtain ⟨b, q2, u2⟩ := z2
      rw [e2, bnd_ok] at h
      cases h
      exact numB_ok e
theorem side_key (s : Side) : s.key = 2 * s.leaf + if s.b = true then 1 else 0 := rfl
theorem side_inj {s t : Side} (h : s.key = t.key) : s = t := by
  obtain ⟨l, b⟩ := s
  obtain ⟨m, c⟩ := t
  simp only [side_key] at h
  have e : l = m := by split at h <;> split at h <;> omega
  subst e
  cases b <;> cases c <;> simp_all

/-! ### second, several -/
theorem second_bnd {α : Type} (rd : Nat → Bytes → Rd α) (fine : α → Bool) (p : Nat) (t : Bytes) :
    second rd fine p t = bnd (charAt 32 p t) fun _ q r => bnd (rd q r) fun x z u => if fine x = true then .ok (x, z, u) else .error q := by
  unfold second
  rcases charAt 32 p t with e | ⟨l, q, r⟩
  · rfl
  · dsimp only [bnd]
    rcases rd q r with e | ⟨b, q, r⟩ <;> rfl
theorem several_bnd {α : Type} (rd : Nat → Bytes → Rd α) (key : α → Nat) (f least last p : Nat) (t : Bytes) :
    several rd key (f + 1) least last p t = bnd (second rd (fun x => decide (last < key x)) p t) fun x q u =>
      if least ≤ 1 ∧ u.head? = some 10 then .ok ([x], q, u) else bnd (several rd key f (least - 1) (key x) q u) fun l q u => .ok (x :: l, q, u) := by
  rw [several]
  rcases second rd (fun x => decide (last < key x)) p t with e | ⟨x, q, u⟩
  · rfl
  · dsimp only [bnd]
    split
    · rfl
    · rcases several rd key f (least - 1) (key x) q u with e | ⟨b, q, r⟩ <;> rfl
theorem suf_second {α : Type} {bs : Bytes} {rd : Nat → Bytes → Rd α} {fine : α → Bool} {p : Nat} (hp : p ≤ bs.length) (hrd : ∀ q, q ≤ bs.length → Suf bs q (rd q (bs.drop q))) : Suf bs p (second rd fine p (bs.drop p)) := by
  rw [second_bnd]
  refine suf_bnd (suf_char hp) fun _ q h1 h2 _ => suf_bnd ((hrd q h2).mono (Nat.le_of_lt h1)) fun x z h3 h4 _ => ?_
  split
  · exact ⟨rfl, h3, h4⟩
  · exact ⟨Nat.le_of_lt h1, h2⟩
def lastKey {α : Type} (key : α → Nat) (xs : List α) : Nat := match xs.getLast? with
  | some x => key x
  | none => 0
theorem lastKey_snoc {α : Type} (key : α → Nat) (xs : List α) (x : α) : lastKey key (xs ++ [x]) = key x := by simp [lastKey]
/-- the loop of o and h, from where xs have been read -/
def sevFrom {α : Type} (rd : Nat → Bytes → Rd α) (key : α → Nat) (fewest f : Nat) (xs : List α) (p : Nat) (t : Bytes) : Rd (List α) :=
  if fewest ≤ xs.length ∧ t.head? = some 10 then .ok (xs, p, t)
  else bnd (several rd key f (fewest - xs.length) (lastKey key xs) p t) fun l q u => .ok (xs ++ l, q, u)
theorem sevFrom_start {α : Type} (rd : Nat → Bytes → Rd α) (key : α → Nat) (fewest f p : Nat) (t : Bytes) (h : 0 < fewest) : sevFrom rd key fewest f [] p t = several rd key f fewest 0 p t := by
  unfold sevFrom
  rw [if_neg (by simp; omega)]
  cases e : several rd key f (fewest - ([] : List α).length) (lastKey key []) p t with
  | error z =>
    have e' : several rd key f fewest 0 p t = .error z := e
    rw [e', bnd_err]
  | ok z =>
    obtain ⟨l, q, u⟩ := z
    have e' : several rd key f fewest 0 p t = .ok (l, q, u) := e
    rw [e', bnd_ok]
    rfl
theorem sevFrom_step {α : Type} (rd : Nat → Bytes → Rd α) (key : α → Nat) (fewest f : Nat) (xs : List α) (p : Nat) (t : Bytes) (h : ¬ (fewest ≤ xs.length ∧ t.head? = some 10)) :
    sevFrom rd key fewest (f + 1) xs p t = bnd (second rd (fun x => decide (lastKey key xs < key x)) p t) fun x q u => sevFrom rd key fewest f (xs ++ [x]) q u := by
  unfold sevFrom
  rw [if_neg h]
  rw [several_bnd, bnd_bnd]
  congr 1
  funext x q u
  rw [List.length_append, List.length_singleton, lastKey_snoc]
  by_cases c : u.head? = some 10
  · by_cases c2 : fewest ≤ xs.length + 1
    · rw [if_pos ⟨by omega, c⟩, if_pos ⟨c2, c⟩, bnd_ok]
    · rw [if_neg (by omega), if_neg (fun z => c2 z.1), bnd_bnd, Nat.sub_sub]
      simp [bnd_ok]
  · rw [if_neg (fun z => c z.2), if_neg (fun z => c z.2), bnd_bnd, Nat.sub_sub]
    simp [bnd_ok]
theorem suf_several {α : Type} {bs : Bytes} {rd : Nat → Bytes → Rd α} {key : α → Nat} (hrd : ∀ q, q ≤ bs.length → Suf bs q (rd q (bs.drop q))) : ∀ (f least last p : Nat), p ≤ bs.length → Suf bs p (several rd key f least last p (bs.drop p))
  | 0, _, _, p, hp => ⟨Nat.le_refl _, hp⟩
  | f + 1, least, last, p, hp => by
    rw [several_bnd]
    refine suf_bnd (suf_second hp hrd) fun x q h1 h2 _ => ?_
    split
    · exact ⟨rfl, h1, h2⟩
    · exact suf_bnd ((suf_several hrd f _ _ q h2).mono (Nat.le_of_lt h1)) fun l q' h3 h4 _ => ⟨rfl, h3, h4⟩
end Desk
end
section
set_option autoImplicit false
namespace Desk
open Quire QuireSeen
theorem u8n {c : UInt8} {k : Nat} (hk : k < 256) : c = UInt8.ofNat k ↔ c.toNat = k := by
  rw [u8_eq, UInt8.toNat_ofNat_of_lt' hk]
/-- what is told with its sign behind a leaf -/
def coreL (c : UInt8) (l x : Nat) : Core := if c.toNat = 61 then (if x = 0 then .alone l else .sheet l x) else if c.toNat = 60 then .before l x else .together l x
theorem signBehind_bnd {β : Type} (p : Nat) (t : Bytes) (k : UInt8 → Nat → Bytes → Rd β) :
    bnd (signBehind p t) k = bnd (charAt 32 p t) fun _ q r => match r with | [] => .error q | c :: u => k c q u := by
  unfold signBehind
  rcases charAt 32 p t with e | ⟨x, q, r⟩
  · rfl
  · cases r <;> rfl
theorem ofLeaf_bnd {n l p : Nat} {t : Bytes} (hl : 1 ≤ l) :
    ofLeaf n l p t = bnd (charAt 32 p t) fun _ q r => bnd (needAt [61, 60, 126] q r) fun c q2 u => bnd (charAt 32 q2 u) fun _ q3 r3 => bnd (numB (if c.toNat = 61 then 0 else 1) n q3 r3) fun x z w =>
      if x ≠ l then .ok (coreL c l x, z, w) else .error q3 := by
  have e : ofLeaf n l p t = bnd (signBehind p t) fun c q u =>
      if c = 61 then bnd (second number (fun x => x == 0 || (isLeafOf n x && x != l)) (q + 1) u) fun x q u => .ok (if x = 0 then .alone l else .sheet l x, q, u)
      else if c = 60 then bnd (second (leafAt n) (fun x => x != l) (q + 1) u) fun x q u => .ok (.before l x, q, u)
      else if c = 126 then bnd (second (leafAt n) (fun x => x != l) (q + 1) u) fun x q u => .ok (.together l x, q, u)
      else .error q := by
    unfold ofLeaf
    rcases signBehind p t with e | ⟨c, q, u⟩
    · rfl
    · rw [bnd_ok]
      dsimp only
      by_cases a1 : c = 61
      · rw [if_pos a1, if_pos a1]
        rcases second number (fun x => x == 0 || (isLeafOf n x && x != l)) (q + 1) u with e | ⟨x, q, u⟩ <;> rfl
      · rw [if_neg a1, if_neg a1]
        by_cases a2 : c = 60
        · rw [if_pos a2, if_pos a2]
          rcases second (leafAt n) (fun x => x != l) (q + 1) u with e | ⟨x, q, u⟩ <;> rfl
        · rw [if_neg a2, if_neg a2]
          by_cases a3 : c = 126
          · rw [if_pos a3, if_pos a3]
            rcases second (leafAt n) (fun x => x != l) (q + 1) u with e | ⟨x, q, u⟩ <;> rfl
          · rw [if_neg a3, if_neg a3]
  rw [e, signBehind_bnd]
  congr 1
  funext _ q r
  cases r with
  | nil => rfl
  | cons c u =>
    rw [need_cons]
    dsimp only
    by_cases h1 : c.toNat = 61
    · have hc : c = 61 := u8_eq.mpr h1
      rw [if_pos hc, if_pos (by simp [h1]), bnd_ok, second_bnd, bnd_bnd]
      congr 1
      funext _ q3 r3
      rw [if_pos h1, bnd_bnd, numB]
      rcases number q3 r3 with z | ⟨x, z, w⟩
      · rfl
      · rw [bnd_ok]
        dsimp only
        by_cases hx : x ≤ n
        · rw [if_pos (show 0 ≤ x ∧ x ≤ n from ⟨Nat.zero_le _, hx⟩), bnd_ok]
          by_cases hxl : x = l
          · rw [if_neg (show ¬ x ≠ l from fun z => z hxl), if_neg, bnd_err]
            subst hxl
            simp; omega
          · rw [if_pos (show x ≠ l from hxl), if_pos, bnd_ok, coreL, if_pos h1]
            by_cases h0 : x = 0
            · simp [h0]
            · simp [isLeafOf, hx, hxl]; omega
        · rw [if_neg (show ¬ (0 ≤ x ∧ x ≤ n) from fun z => hx z.2), if_neg, bnd_err, bnd_err]
          simp [isLeafOf, hx]; omega
    · have hc : ¬ c = 61 := fun z => h1 (by rw [z]; rfl)
      rw [if_neg hc]
      have tail : ∀ (k : Nat → Core), (bnd (second (leafAt n) (fun x => x != l) (q + 1) u) fun x q u => (.ok (k x, q, u) : Rd Core)) =
          bnd (charAt 32 (q + 1) u) fun _ q3 r3 => bnd (numB 1 n q3 r3) fun x z w => if x ≠ l then .ok (k x, z, w) else .error q3 := fun k => by
        rw [second_bnd, bnd_bnd]
        congr 1
        funext _ q3 r3
        rw [bnd_bnd, leafAt_eq]
        congr 1
        funext x z w
        by_cases hxl : x = l
        · subst hxl; simp [bnd_err]
        · simp [hxl, bnd_ok]
      by_cases h2 : c.toNat = 60
      · have hc2 : c = 60 := u8_eq.mpr h2
        rw [if_pos hc2, if_pos (by simp [h2]), bnd_ok, tail]
        simp only [coreL, h2]
        rfl
      · have hc2 : ¬ c = 60 := fun z => h2 (by rw [z]; rfl)
        rw [if_neg hc2]
        by_cases h3 : c.toNat = 126
        · have hc3 : c = 126 := u8_eq.mpr h3
          rw [if_pos hc3, if_pos (by simp [h3]), bnd_ok, tail]
          simp only [coreL, h3]
          rfl
        · have hc3 : ¬ c = 126 := fun z => h3 (by rw [z]; rfl)
          rw [if_neg hc3, if_neg (by simp [h1, h2, h3]), bnd_err]
theorem ofSide_bnd {n p : Nat} {s : Side} {t : Bytes} :
    ofSide n s p t = bnd (charAt 32 p t) fun _ q r => bnd (needAt [62, 124, 94] q r) fun c q2 u => if c.toNat = 94 then .ok (.front s, q2, u) else bnd (charAt 32 q2 u) fun _ q3 r3 => bnd (sideAt n q3 r3) fun x z w =>
      if x = s ∨ (c.toNat = 124 ∧ x.leaf = s.leaf) then .error q3 else .ok (if c.toNat = 62 then .next s x else .faces s x, z, w) := by
  have e : ofSide n s p t = bnd (signBehind p t) fun c q u =>
      if c = 62 then bnd (second (sideAt n) (fun x => x != s) (q + 1) u) fun x q u => .ok (.next s x, q, u)
      else if c = 124 then bnd (second (sideAt n) (fun x => x.leaf != s.leaf) (q + 1) u) fun x q u => .ok (.faces s x, q, u)
      else if c = 94 then .ok (.front s, q + 1, u) else .error q := by
    unfold ofSide
    rcases signBehind p t with e | ⟨c, q, u⟩
    · rfl
    · rw [bnd_ok]
      dsimp only
      by_cases a1 : c = 62
      · rw [if_pos a1, if_pos a1]
        rcases second (sideAt n) (fun x => x != s) (q + 1) u with e | ⟨x, q, u⟩ <;> rfl
      · rw [if_neg a1, if_neg a1]
        by_cases a2 : c = 124
        · rw [if_pos a2, if_pos a2]
          rcases second (sideAt n) (fun x => x.leaf != s.leaf) (q + 1) u with e | ⟨x, q, u⟩ <;> rfl
        · rw [if_neg a2, if_neg a2]
  rw [e, signBehind_bnd]
  congr 1
  funext _ q r
  cases r with
  | nil => rfl
  | cons c u =>
    rw [need_cons]
    dsimp only
    have tail : ∀ (fine : Side → Bool) (k : Side → Core) (bad : Side → Prop) [DecidablePred bad], (∀ x, fine x = true ↔ ¬ bad x) → (bnd (second (sideAt n) fine (q + 1) u) fun x q u => (.ok (k x, q, u) : Rd Core)) =
        bnd (charAt 32 (q + 1) u) fun _ q3 r3 => bnd (sideAt n q3 r3) fun x z w => if bad x then .error q3 else .ok (k x, z, w) := fun fine k bad _ hf => by
      rw [second_bnd, bnd_bnd]
      congr 1
      funext _ q3 r3
      rw [bnd_bnd]
      congr 1
      funext x z w
      by_cases hb : bad x
      · rw [if_pos hb, if_neg (fun z => (hf x).mp z hb), bnd_err]
      · rw [if_neg hb, if_pos ((hf x).mpr hb), bnd_ok]
    by_cases h1 : c.toNat = 62
    · have hc : c = 62 := u8_eq.mpr h1
      rw [if_pos hc, if_pos (by simp [h1]), bnd_ok, if_neg (by omega), tail _ _ (fun x => x = s ∨ (c.toNat = 124 ∧ x.leaf = s.leaf)) (fun x => by simp [h1])]
      simp only [h1]
      rfl
    · have hc : ¬ c = 62 := fun z => h1 (by rw [z]; rfl)
      rw [if_neg hc]
      by_cases h2 : c.toNat = 124
      · have hc2 : c = 124 := u8_eq.mpr h2
        rw [if_pos hc2, if_pos (by simp [h2]), bnd_ok, if_neg (by omega), tail _ _ (fun x => x = s ∨ (c.toNat = 124 ∧ x.leaf = s.leaf)) (fun x => by
          simp [h2]
          intro z y
          exact z (by rw [y]))]
        simp only [h2]
        rfl
      · have hc2 : ¬ c = 124 := fun z => h2 (by rw [z]; rfl)
        rw [if_neg hc2]
        by_cases h3 : c.toNat = 94
        · have hc3 : c = 94 := u8_eq.mpr h3
          rw [if_pos hc3, if_pos (by simp [h3]), bnd_ok, if_pos h3]
        · have hc3 : ¬ c = 94 := fun z => h3 (by rw [z]; rfl)
          rw [if_neg hc3, if_neg (by simp [h1, h2, h3]), bnd_err]
/-- what stands behind a line's first number -/
def relAt (n l q : Nat) (u : Bytes) : Rd Core := if u.head? = some 32 then ofLeaf n l q u else bnd (letterAt q u) fun b q v => ofSide n ⟨l, b⟩ q v
theorem coreAt_rel {n p : Nat} {t : Bytes} (h1 : t.head? ≠ some 111) (h2 : t.head? ≠ some 104) : coreAt n p t = bnd (numB 1 n p t) fun l q u => relAt n l q u := by
  cases t with
  | nil => rfl
  | cons c r =>
    have g1 : ¬ c = 111 := fun z => h1 (by rw [z]; rfl)
    have g2 : ¬ c = 104 := fun z => h2 (by rw [z]; rfl)
    unfold coreAt
    dsimp only
    rw [if_neg g1, if_neg g2, ← leafAt_eq]
    rcases leafAt n p (c :: r) with e | ⟨l, q, u⟩
    · rfl
    · rw [bnd_ok]
      dsimp only
      unfold relAt
      cases u with
      | nil => rfl
      | cons x v =>
        rw [letter_cons]
        dsimp only
        by_cases x1 : x = 97
        · subst x1; rfl
        · rw [if_neg x1, if_neg x1]
          by_cases x2 : x = 98
          · subst x2; rfl
          · rw [if_neg x2, if_neg x2]
            by_cases x3 : x = 32
            · subst x3; rfl
            · rw [if_neg (show ¬ (x :: v).head? = some 32 from fun z => x3 (Option.some.inj z)), bnd_err]
              unfold ofLeaf signBehind
              rw [char_cons, if_neg x3]
theorem coreAt_hole {n p : Nat} {r : Bytes} : coreAt n p (111 :: r) = bnd (several (leafAt n) (fun x => x) (r.length + 1) 2 0 (p + 1) r) fun l q u => .ok (.hole l, q, u) := by
  unfold coreAt
  dsimp only
  rw [if_pos rfl]
  rcases several (leafAt n) (fun x => x) (r.length + 1) 2 0 (p + 1) r with e | ⟨l, q, u⟩ <;> rfl
theorem coreAt_hair {n p : Nat} {r : Bytes} : coreAt n p (104 :: r) = bnd (several (sideAt n) Side.key (r.length + 1) 1 0 (p + 1) r) fun l q u => .ok (.hair l, q, u) := by
  unfold coreAt
  dsimp only
  rw [if_neg (by decide), if_pos rfl]
  rcases several (sideAt n) Side.key (r.length + 1) 1 0 (p + 1) r with e | ⟨l, q, u⟩ <;> rfl
/-- from behind the ! -/
def lineAt (n : Nat) (no : Bool) (q : Nat) (u : Bytes) : Rd Finding := bnd (coreAt n q u) fun c q u => bnd (charAt 10 q u) fun _ q u => .ok (⟨no, c⟩, q, u)
theorem findingAt_no {n p : Nat} {r : Bytes} : findingAt n p (33 :: r) = bnd (charAt 32 (p + 1) r) fun _ q u => lineAt n true q u := by
  unfold findingAt
  simp only [List.head?_cons, beq_self_eq_true, if_true, List.drop_one, List.tail_cons]
  rcases charAt 32 (p + 1) r with e | ⟨c, q, u⟩
  · rfl
  · rw [bnd_ok]
    unfold lineAt
    dsimp only
    rcases coreAt n q u with e | ⟨c, q, u⟩
    · rfl
    · rw [bnd_ok]
      dsimp only
      rcases charAt 10 q u with e | ⟨c, q, u⟩ <;> rfl
theorem findingAt_yes {n p : Nat} {t : Bytes} (h : t.head? ≠ some 33) : findingAt n p t = lineAt n false p t := by
  unfold findingAt
  have e : (t.head? == some 33) = false := beq_eq_false_iff_ne.mpr h
  simp only [e, Bool.false_eq_true, if_false]
  unfold lineAt
  rcases coreAt n p t with e | ⟨c, q, u⟩
  · rfl
  · rw [bnd_ok]
    dsimp only
    rcases charAt 10 q u with e | ⟨c, q, u⟩ <;> rfl
end Desk
end
section
set_option autoImplicit false
namespace Desk
open Quire QuireSeen
theorem suf_ofLeaf {bs : Bytes} {n l p : Nat} (hl : 1 ≤ l) (hp : p ≤ bs.length) : Suf bs p (ofLeaf n l p (bs.drop p)) := by
  rw [ofLeaf_bnd hl]
  refine suf_bnd (suf_char hp) fun _ q h1 h2 _ => suf_bnd ((suf_need h2).mono (Nat.le_of_lt h1)) fun c q2 h3 h4 _ => suf_bnd ((suf_char h4).mono (Nat.le_of_lt h3)) fun _ q3 h5 h6 _ => suf_bnd ((suf_numB h6).mono (Nat.le_of_lt h5)) fun x z h7 h8 _ => ?_
  split
  · exact ⟨rfl, h7, h8⟩
  · exact ⟨by omega, h6⟩
theorem suf_ofSide {bs : Bytes} {n p : Nat} {s : Side} (hp : p ≤ bs.length) : Suf bs p (ofSide n s p (bs.drop p)) := by
  rw [ofSide_bnd]
  refine suf_bnd (suf_char hp) fun _ q h1 h2 _ => suf_bnd ((suf_need h2).mono (Nat.le_of_lt h1)) fun c q2 h3 h4 _ => ?_
  split
  · exact ⟨rfl, h3, h4⟩
  refine suf_bnd ((suf_char h4).mono (Nat.le_of_lt h3)) fun _ q3 h5 h6 _ => suf_bnd ((suf_side h6).mono (Nat.le_of_lt h5)) fun x z h7 h8 _ => ?_
  split
  · exact ⟨by omega, h6⟩
  · exact ⟨rfl, h7, h8⟩
theorem suf_rel {bs : Bytes} {n l q : Nat} (hl : 1 ≤ l) (hq : q ≤ bs.length) : Suf bs q (relAt n l q (bs.drop q)) := by
  unfold relAt
  split
  · exact suf_ofLeaf hl hq
  · exact suf_bnd (suf_letter hq) fun b q' h1 h2 _ => (suf_ofSide h2).mono (Nat.le_of_lt h1)
theorem suf_core {bs : Bytes} {n p : Nat} (hp : p ≤ bs.length) : Suf bs p (coreAt n p (bs.drop p)) := by
  have gen : (bs.drop p).head? ≠ some 111 → (bs.drop p).head? ≠ some 104 → Suf bs p (coreAt n p (bs.drop p)) := fun g1 g2 => by
    rw [coreAt_rel g1 g2]
    exact suf_bnd (suf_numB hp) fun l q h1 h2 e => (suf_rel (numB_ok e).1 h2).mono (Nat.le_of_lt h1)
  cases hb : bs[p]? with
  | none => exact gen (by rw [drop_nil hb]; simp) (by rw [drop_nil hb]; simp)
  | some c =>
    have hl : p < bs.length := (List.getElem?_eq_some_iff.mp hb).1
    by_cases c1 : c = 111
    · subst c1
      rw [drop_cons hb, coreAt_hole]
      exact suf_bnd ((suf_several (fun q hq => suf_leaf hq) _ _ _ (p + 1) hl).mono (by omega)) fun l q h1 h2 _ => ⟨rfl, h1, h2⟩
    · by_cases c2 : c = 104
      · subst c2
        rw [drop_cons hb, coreAt_hair]
        exact suf_bnd ((suf_several (fun q hq => suf_side hq) _ _ _ (p + 1) hl).mono (by omega)) fun l q h1 h2 _ => ⟨rfl, h1, h2⟩
      · exact gen (by rw [drop_cons hb]; simpa using c1) (by rw [drop_cons hb]; simpa using c2)
theorem suf_line {bs : Bytes} {n q : Nat} {no : Bool} (hq : q ≤ bs.length) : Suf bs q (lineAt n no q (bs.drop q)) := by
  unfold lineAt
  exact suf_bnd (suf_core hq) fun c q1 h1 h2 _ => suf_bnd ((suf_char h2).mono (Nat.le_of_lt h1)) fun _ q2 h3 h4 _ => ⟨rfl, h3, h4⟩
theorem suf_finding {bs : Bytes} {n p : Nat} (hp : p ≤ bs.length) : Suf bs p (findingAt n p (bs.drop p)) := by
  cases hb : bs[p]? with
  | none => rw [findingAt_yes (by rw [drop_nil hb]; simp)]; exact suf_line hp
  | some c =>
    have hl : p < bs.length := (List.getElem?_eq_some_iff.mp hb).1
    by_cases c1 : c = 33
    · subst c1
      rw [drop_cons hb, findingAt_no]
      exact suf_bnd ((suf_char hl).mono (by omega)) fun _ q h1 h2 _ => (suf_line h2).mono (Nat.le_of_lt h1)
    · rw [findingAt_yes (by rw [drop_cons hb]; simpa using c1)]
      exact suf_line hp
/-- the loop over the findings, from where xs have been read -/
def finFrom (n f : Nat) (xs : List Finding) (p : Nat) (t : Bytes) : Except Nat (List Finding) := match findingsAt n f (FINDINGS - xs.length) p t with
  | .error e => .error e
  | .ok l => .ok (xs ++ l)
theorem finFrom_start (n f p : Nat) (t : Bytes) : finFrom n f [] p t = findingsAt n f FINDINGS p t := by
  unfold finFrom
  rw [List.length_nil, Nat.sub_zero]
  cases findingsAt n f FINDINGS p t <;> rfl
theorem finFrom_end (n f : Nat) (xs : List Finding) (p : Nat) : finFrom n f xs p [] = .ok xs := by
  unfold finFrom
  cases f <;> simp [findingsAt]
theorem finFrom_full (n f : Nat) (xs : List Finding) (p : Nat) {t : Bytes} (h : t ≠ []) (hx : xs.length = FINDINGS) : finFrom n f xs p t = .error p := by
  unfold finFrom
  rw [hx, Nat.sub_self]
  cases t with
  | nil => exact absurd rfl h
  | cons c r => cases f <;> simp [findingsAt]
theorem finFrom_step (n f : Nat) (xs : List Finding) (p : Nat) {t : Bytes} (h : t ≠ []) (hx : xs.length < FINDINGS) :
    finFrom n (f + 1) xs p t = match findingAt n p t with | .error e => .error e | .ok (x, q, u) => finFrom n f (xs ++ [x]) q u := by
  unfold finFrom
  cases t with
  | nil => exact absurd rfl h
  | cons c r =>
    rw [findingsAt, if_neg (by omega)]
    · rcases findingAt n p (c :: r) with e | ⟨x, q, u⟩
      · rfl
      · dsimp only
        rw [List.length_append, List.length_singleton, Nat.sub_sub]
        cases findingsAt n f (FINDINGS - (xs.length + 1)) q u with
        | error e => rfl
        | ok l => simp
    · simp
theorem readFindings_eq (t : Bytes) : readFindings t = match bnd (numB 1 LEAVES 0 t) fun n q u => bnd (charAt 10 q u) fun _ q u => (.ok (n, q, u) : Rd Nat) with
    | .error e => .error e
    | .ok (n, q, u) => match finFrom n (u.length + 1) [] q u with
      | .error e => .error e
      | .ok l => .ok ⟨n, l⟩ := by
  unfold readFindings numB
  rcases number 0 t with e | ⟨n, q, u⟩
  · rfl
  · dsimp only
    by_cases h : n < 1 ∨ LEAVES < n
    · rw [if_pos h, if_neg (by omega)]
      rfl
    · rw [if_neg h, if_pos (by omega), bnd_ok]
      rcases charAt 10 q u with e | ⟨_, q, u⟩
      · rfl
      · rw [bnd_ok]
        dsimp only
        rw [finFrom_start]
        cases findingsAt n (u.length + 1) FINDINGS q u <;> rfl
end Desk
end
section
set_option Elab.async false
set_option linter.all false
set_option maxRecDepth 100000
namespace L2
open PySem PySem.Spec PyProof.Rows
section
variable {P : Program} {w : World} {K : PySem.W.Frag} {mg : Str → Option Value} {base : Heap}
/-- THE RULE for a def out of which an exception may fly -/
theorem Fun.okx {x qual : Str} {st : Stmt} {f : Addr} {fd : FuncData} {N ps : List Str} {k : Nat} {sp : Sp} (F : Fun K x qual st f fd) (S : FnScope N ps (defScope st)) (len : ∀ vs H Q E, sp vs H Q E → vs.length = ps.length)
    (hbody : ∀ (cdv : Value) (A : Around) (outer : List Env) (s : Shared) (H : Hp) (vs : List V) (Q : VK) (E : XK), Room k (A.deeper (envOfC qual (defScope st) s.heap.objs.size f cdv)) → sp vs H Q E →
      ∃ t, PSs (cxX P w K mg base N qual (defScope st) f cdv A outer s H E) (defBody st) t ∧ t { nx := fun _ H' => Q .non H', rt := Q } (start N vs) H) : FnOk P w K mg base (CXx P w) (k + 1) f fd ps sp := by
  obtain ⟨oc, od, kV, doc, pm, an, cdv, ct, osl, rfl, lk, hcd⟩ := F.ex
  exact fn_of lk hcd S len fun A outer s H vs Q E hr hsp => hbody cdv A outer s H vs Q E hr hsp
end
end L2
namespace Desk
open PySem PySem.Spec PyProof.Rows L2
open Quire (Bytes)
open QuireSeen (Rd number)
/-! ### the classes, the reader -/
structure Cs where
  R : Addr
  F : Addr
  B : Addr
  L : Addr
  S : Addr
  Fi : Addr
def tx (bs : Bytes) : List V := bs.map fun c => V.int (c.toNat : Int)
def rf (a : Addr) (b : Bool) (p : Nat) : List (Str × V) := [("text", .ref a), ("of_book", .bl b), ("place", .int (p : Int))]
theorem rf_text (a : Addr) (b : Bool) (p : Nat) : (rf a b p).lookup ("text" : Str) = some (.ref a) := by
  simp only [rf, List.lookup, beq_self_eq_true]
theorem rf_of (a : Addr) (b : Bool) (p : Nat) : (rf a b p).lookup ("of_book" : Str) = some (.bl b) := by
  have e : (("of_book" : Str) == ("text" : Str)) = false := by decide +kernel
  simp only [rf, List.lookup, e, beq_self_eq_true]
theorem rf_place (a : Addr) (b : Bool) (p : Nat) : (rf a b p).lookup ("place" : Str) = some (.int (p : Int)) := by
  have e : (("place" : Str) == ("text" : Str)) = false := by decide +kernel
  have e2 : (("place" : Str) == ("of_book" : Str)) = false := by decide +kernel
  simp only [rf, List.lookup, e, e2, beq_self_eq_true]
theorem rf_no (a : Addr) (b : Bool) (p : Nat) {m : Str} (h1 : (m == ("text" : Str)) = false) (h2 : (m == ("of_book" : Str)) = false) (h3 : (m == ("place" : Str)) = false) : (rf a b p).lookup m = none := by
  simp only [rf, List.lookup, h1, h2, h3]
theorem rf_put (a : Addr) (b : Bool) (p q : Nat) : putF "place" (.int (q : Int)) (rf a b p) = rf a b q := by
  have e : ¬ (("text" : Str) = ("place" : Str)) := by decide +kernel
  have e2 : ¬ (("of_book" : Str) = ("place" : Str)) := by decide +kernel
  simp only [rf, putF, if_neg e, if_neg e2, if_true]
theorem rf_make (a : Addr) (b : Bool) : putF "place" (.int ((0 : Nat) : Int)) (putF "of_book" (.bl b) (putF "text" (.ref a) [])) = rf a b 0 := by
  have e : ¬ (("text" : Str) = ("of_book" : Str)) := by decide +kernel
  have e1 : ¬ (("text" : Str) = ("place" : Str)) := by decide +kernel
  have e2 : ¬ (("of_book" : Str) = ("place" : Str)) := by decide +kernel
  simp only [rf, putF, if_neg e, if_neg e1, if_neg e2]
/-- all that is tracked, but the reader, is as it was -/
def Keep (r : Addr) (H H' : Hp) : Prop := ∀ x o, H x = some o → x ≠ r → H' x = some o
theorem Keep.refl (r : Addr) (H : Hp) : Keep r H H := fun _ _ h _ => h
theorem Keep.trans {r : Addr} {H H1 H2 : Hp} (a : Keep r H H1) (b : Keep r H1 H2) : Keep r H H2 := fun x o h n => b x o (a x o h n) n
theorem Keep.same {r : Addr} {H H' : Hp} (s : Same H H') : Keep r H H' := fun x o h _ => s x o h
theorem Keep.set {r : Addr} {H : Hp} {o : HO} : Keep r H (upd H r o) := fun x u h n => by rw [upd_ne n]; exact h
/-- a reader at place p of the text bs, which is the list at a -/
structure RS (K : PySem.W.Frag) (c : Cs) (bs : Bytes) (H : Hp) (r a : Addr) (b : Bool) (p : Nat) : Prop where
  obj : ∃ dx, H r = some (.ins c.R dx (rf a b p))
  txt : SqL K H a (tx bs)
  le : p ≤ bs.length
  sz : bs.length ≤ 16384
theorem sq_keep {K : PySem.W.Frag} {H H' : Hp} {r a : Addr} {xs : List V} {C dx : Addr} {fs : List (Str × V)} (k : Keep r H H') (hr : H r = some (.ins C dx fs)) (h : SqL K H a xs) : SqL K H' a xs := by
  rcases h with (h | ⟨o, h⟩) | h
  · exact .inl (.inl (k _ _ h (ne_of h hr (by intro z; cases z))))
  · exact .inl (.inr ⟨o, k _ _ h (ne_of h hr (by intro z; cases z))⟩)
  · exact .inr h
theorem RS.at_ {K : PySem.W.Frag} {c : Cs} {bs : Bytes} {H H' : Hp} {r a : Addr} {b : Bool} {p q : Nat} (x : RS K c bs H r a b p) (k : Keep r H H') (ho : ∃ dx, H' r = some (.ins c.R dx (rf a b q))) (hq : q ≤ bs.length) : RS K c bs H' r a b q :=
  let ⟨_, h⟩ := x.obj; ⟨ho, sq_keep k h x.txt, hq, x.sz⟩
/-- the class of this text's refusal -/
def Cs.X (c : Cs) (b : Bool) : Addr := if b then c.B else c.F
/-- the number of this text's refusal -/
def code (b : Bool) : Int := if b then -3 else -6
/-- the exception's dict: its answer is this list -/
def Ans (H : Hp) (dx : Addr) (zs : List Int) : Prop := ∃ l, H dx = some (.xd [("answer", .ref l)]) ∧ H l = some (.lst (zs.map V.int))
/-- what a reading does: it comes to what stands there, or a fault flies -/
def RR {α : Type} (K : PySem.W.Frag) (c : Cs) (bs : Bytes) (r a : Addr) (b : Bool) (rep : α → V → Hp → Prop) (res : Rd α) (H : Hp) (Q : VK) (E : XK) : Prop := match res with
  | .ok (x, q, _) => ∀ v H', rep x v H' → RS K c bs H' r a b q → Keep r H H' → Q v H'
  | .error e => ∀ dx H', Ans H' dx [code b, (e : Int)] → Keep r H H' → E (.ref (c.X b)) (some dx) H'
section
variable {α β : Type} {K : PySem.W.Frag} {c : Cs} {bs : Bytes} {r a : Addr} {b : Bool} {rep : α → V → Hp → Prop} {rep2 : β → V → Hp → Prop} {H H' : Hp} {Q Q1 : VK} {E : XK}
theorem RR.shift {res : Rd α} (h : RR K c bs r a b rep res H Q E) (k : Keep r H H') : RR K c bs r a b rep res H' Q E := by
  rcases res with e | ⟨x, q, u⟩
  · exact fun dx H2 h1 h2 => h dx H2 h1 (k.trans h2)
  · exact fun v H2 h1 h2 h3 => h v H2 h1 h2 (k.trans h3)
/-- one reading behind another -/
theorem RR.seq {p : Nat} {res : Rd α} {k : α → Nat → Bytes → Rd β} (hs : Suf bs p res) (hw : RR K c bs r a b rep2 (bnd res k) H Q E)
    (hk : ∀ x q v H', res = .ok (x, q, bs.drop q) → p < q → q ≤ bs.length → rep x v H' → RS K c bs H' r a b q → Keep r H H' → RR K c bs r a b rep2 (k x q (bs.drop q)) H' Q E → Q1 v H') : RR K c bs r a b rep res H Q1 E := by
  cases e : res with
  | error z =>
    rw [e] at hw
    exact hw
  | ok z =>
    obtain ⟨x, q, u⟩ := z
    obtain ⟨h1, h2, h3⟩ := hs.ok e
    subst h1
    rw [e, bnd_ok] at hw
    exact fun v H' g1 g2 g3 => hk x q v H' e h2 h3 g1 g2 g3 (hw.shift g3)
/-- .. seen from an earlier heap -/
theorem RR.seq0 {H0 : Hp} {p : Nat} {res : Rd α} {k : α → Nat → Bytes → Rd β} (hs : Suf bs p res) (k0 : Keep r H0 H) (hw : RR K c bs r a b rep2 (bnd res k) H0 Q E)
    (hk : ∀ x q v H', res = .ok (x, q, bs.drop q) → p < q → q ≤ bs.length → rep x v H' → RS K c bs H' r a b q → Keep r H H' → RR K c bs r a b rep2 (k x q (bs.drop q)) H0 Q E → Q1 v H') : RR K c bs r a b rep res H Q1 E := by
  cases e : res with
  | error z =>
    rw [e] at hw
    exact fun dx H' h1 h2 => hw dx H' h1 (k0.trans h2)
  | ok z =>
    obtain ⟨x, q, u⟩ := z
    obtain ⟨h1, h2, h3⟩ := hs.ok e
    subst h1
    rw [e, bnd_ok] at hw
    exact fun v H' g1 g2 g3 => hk x q v H' e h2 h3 g1 g2 g3 hw
theorem RR.ok {x : α} {q : Nat} {u : Bytes} {v : V} (h : RR K c bs r a b rep (.ok (x, q, u)) H Q E) (hr : rep x v H) (hs : RS K c bs H r a b q) : Q v H := h v H hr hs (.refl r H)
end
def isI {α : Type} (f : α → Int) : α → V → Hp → Prop := fun x v _ => v = .int (f x)
/-! ### the promises of the reader's methods -/
def spXInit (C : Addr) (cd : Int) : Sp := fun vs H Q _ => ∃ a e, vs = [.ref a, .int e] ∧ H a = some (xo a C none) ∧ ∀ dx H', Ans H' dx [cd, e] → H' a = some (xo a C (some dx)) → Keep a H H' → Q .non H'
def spTInit (C : Addr) (cd : Int) : Sp := fun vs H Q _ => ∃ a, vs = [.ref a] ∧ H a = some (xo a C none) ∧ ∀ dx H', Ans H' dx [cd] → H' a = some (xo a C (some dx)) → Keep a H H' → Q .non H'
def spRInit (C : Addr) : Sp := fun vs H Q _ => ∃ r dx a b, vs = [.ref r, .ref a, .bl b] ∧ H r = some (.ins C dx []) ∧ ∀ H', H' r = some (.ins C dx (rf a b 0)) → Keep r H H' → Q .non H'
def spFail (c : Cs) : Sp := fun vs H _ E => ∃ r dx a b p e, vs = [.ref r, .int e] ∧ H r = some (.ins c.R dx (rf a b p)) ∧ ∀ dy H', Ans H' dy [code b, e] → Same H H' → E (.ref (c.X b)) (some dy) H'
def spByte (K : PySem.W.Frag) (c : Cs) (bs : Bytes) : Sp := fun vs H Q _ => ∃ r a b p, vs = [.ref r] ∧ RS K c bs H r a b p ∧ Q (.int (byteAt bs p)) H
def spStep (c : Cs) : Sp := fun vs H Q _ => ∃ r dx a b p, vs = [.ref r] ∧ H r = some (.ins c.R dx (rf a b p)) ∧ Q .non (upd H r (.ins c.R dx (rf a b (p + 1))))
def spNeed (K : PySem.W.Frag) (c : Cs) (bs : Bytes) : Sp := fun vs H Q E => ∃ r a b p al cs, vs = [.ref r, .ref al] ∧ RS K c bs H r a b p ∧ SqT K H al (cs.map fun n : Nat => V.int (n : Int)) ∧
  RR K c bs r a b (isI fun x : UInt8 => (x.toNat : Int)) (needAt cs p (bs.drop p)) H Q E
def spNumber (K : PySem.W.Frag) (c : Cs) (bs : Bytes) : Sp := fun vs H Q E => ∃ r a b p, vs = [.ref r] ∧ RS K c bs H r a b p ∧ RR K c bs r a b (isI fun n : Nat => (n : Int)) (number p (bs.drop p)) H Q E
end Desk
end
section
set_option Elab.async false
set_option linter.all false
set_option maxRecDepth 100000
namespace Desk
open PySem PySem.Spec PyProof.Rows L2
def top (i : Nat) : Stmt := PySem.Challenge.pw_looseleavesdesk_s06_sides.main.body.getD i (.Pass ⟨0, 0, 0, 0⟩)
abbrev s__wall : Stmt := top 0
abbrev s_Lying_init : Stmt := inClass (top 20) 0
abbrev s_Lying_leaf_place : Stmt := inClass (top 20) 1
abbrev s_Lying_is_front : Stmt := inClass (top 20) 2
abbrev s_list_sides : Stmt := top 21
abbrev s_number_sides : Stmt := top 22
abbrev s_number_gatherings : Stmt := top 23
abbrev s_find_partners : Stmt := top 24
abbrev sFiInit : Stmt := inClass (top 26) 0
abbrev sLLInit : Stmt := inClass (top 27) 0
abbrev sTLInit : Stmt := inClass (top 37) 0
abbrev sFFInit : Stmt := inClass (top 38) 0
abbrev sBFInit : Stmt := inClass (top 39) 0
abbrev sSeInit : Stmt := inClass (top 40) 0
abbrev sCaInit : Stmt := inClass (top 41) 0
abbrev sCase : Stmt := top 42
abbrev sShort : Stmt := top 43
abbrev sRInit : Stmt := inClass (top 44) 0
abbrev sFail : Stmt := inClass (top 44) 1
abbrev sByte : Stmt := inClass (top 44) 2
abbrev sStep : Stmt := inClass (top 44) 3
abbrev sNeed : Stmt := inClass (top 44) 4
abbrev sNumber : Stmt := inClass (top 44) 5
abbrev sRN : Stmt := top 45
abbrev sRL : Stmt := top 46
abbrev sRSd : Stmt := top 47
abbrev sRFs : Stmt := top 48
abbrev sRF : Stmt := top 49
abbrev sRR : Stmt := top 50
abbrev sRel : Stmt := top 51
abbrev sBL : Stmt := top 52
abbrev sBS : Stmt := top 53
abbrev sRB : Stmt := top 54
abbrev sWGE : Stmt := top 55
abbrev sRLL : Stmt := top 56
abbrev s_sides : Stmt := top 58
end Desk
end
section
set_option Elab.async false
set_option linter.all false
set_option maxRecDepth 100000
namespace Desk
open PySem PySem.W PySem.Calls PyProof.Rows
/-! ## the head, in one run: behind the opening all statements of the text, then the looks -/
def yes {α : Type} (_ : α) : Bool := true
theorem left_by {p q : Program} {loose : List Str} {Xt : Shared → Bool} {α : Type} {Yf : Shared → α} {Ya : World → α} {N m M : Nat} {ann : Option Value}
    (ho : ∀ w : World, (fencedOpening treeTable p w N).map (fun s => (s.heap, s.gens, s.drawn, s.toks)) = some (boot_heap w.params, Array.mk [], boot_drawn, boot_toks))
    (hz : ∀ w : World, ((boot_heap w.params).isNs mainGlobals, (boot_heap w.params).objs.size, (boot_heap w.params).nsMap mainGlobals "__annotations__") = (true, m, ann))
    (hr : ∀ (w : World) (os : OsState), ∃ s, topRun treeTable p w m ann M ⟨boot_heap w.params, Array.mk [], boot_drawn, boot_toks, os⟩ (topStub p) = some s ∧
      (staticsOk (importedModules p.main.body) (boot_heap w.params) s.heap && namesBound p s.heap && gensDone s && laidKept (boot_heap w.params) s.heap) = true ∧
      openSeen q loose (importedModules p.main.body) Xt true s = openGood q loose ∧ Yf s = Ya w)
    (hM : Nat.ble M N = true) : LeftO p q loose Xt Yf Ya N := by
  intro w
  obtain ⟨⟨h, g, d, k, os⟩, e, e'⟩ := Option.map_eq_some_iff.mp (ho w)
  injection e' with a1 a2
  injection a2 with a2 a3
  injection a3 with a3 a4
  dsimp only at a1 a2 a3 a4
  subst a1 a2 a3 a4
  have z := hz w
  injection z with z1 z2
  injection z2 with z2 z3
  obtain ⟨s, r1, r2, r3, r4⟩ := hr w os
  have r := topRun_mono (N - M) _ _ _ _ r1
  have hMN : M + (N - M) = N := by have := Nat.le_of_ble_eq_true hM; omega
  rw [hMN] at r
  have t : topFrom treeTable p w N ⟨boot_heap w.params, Array.mk [], boot_drawn, boot_toks, os⟩ = some s := by
    unfold topFrom
    dsimp only
    rw [z1, z2, z3, r]
    show (match staticsOk (importedModules p.main.body) (boot_heap w.params) s.heap && namesBound p s.heap && gensDone s && laidKept (boot_heap w.params) s.heap with | true => some s | false => none) = some s
    rw [r2]
  show ((fencedOpening treeTable p w N).bind (topFrom treeTable p w N)).map _ = _
  rw [e]
  show (topFrom treeTable p w N _).map _ = _
  rw [t]
  show some (_, _) = some (_, _)
  rw [r3, r4]
/-- the text's run from behind its block's start: one piece and the end -/
theorem top_by {tb : String → Option Builtin} {p : Program} {w : World} {m : Nat} {ann : Option Value} {env : Env} {k n N : Nat} {s0 s1 : Shared} {sb : SharedT} {t0 : Thread} {b : List Stmt} {c : Code} {q ps pb : Pos} {β : Type} {φ : Shared → β} {u : Flow × Code × β}
    (h0 : topGo tb p w m ann k s0 t0 = some (s1, ⟨denote tb (.body b env), c, ps, [topFrame q]⟩))
    (h1 : segRun tb p w m ann 1 1 s1 (blockOf b env c ps [topFrame q]) = some (.next, sb.abs, c, pb))
    (h2 : ((segRunT tb p w m ann 1 n sb (piecesOf b env c pb [topFrame q])).bind fun r => (topRun tb p w m ann N r.2.1.abs ⟨doneF .next, c, r.2.2.2, [topFrame q]⟩).map fun s => (r.1, r.2.2.1, φ s)) = some u)
    (hf : u.1 = .next) (hc : u.2.1 = c) : ∃ s, topRun tb p w m ann (k + (1 + (n + N))) s0 t0 = some s ∧ φ s = u.2.2 := by
  obtain ⟨⟨f, sT, c', pos⟩, g1, g2⟩ := Option.bind_eq_some_iff.mp h2
  obtain ⟨s, g3, g4⟩ := Option.map_eq_some_iff.mp g2
  subst g4
  dsimp only at hf hc g3
  subst hf hc
  refine ⟨s, go_top h0 (piece_block h1 ?_), rfl⟩
  have := piece_app (rest := []) (segRun_of g1) (piece_nil g3)
  rw [List.append_nil] at this
  exact this
/-- the looks of the head, one by one -/
theorem seen_by {q : Program} {loose mods : List Str} {Xt : Shared → Bool} {s : Shared}
    (a1 : seen ((recsOf q).map (·.name)) (ownsOf q) [] { s with gens := #[] } = expectedOf q) (a2 : s.heap.bltView = bltViewBooted)
    (a3 : (s.heap.keysOk (looseW q loose) ((recsOf q).map (·.name)) ((litsOf q).map (·.1)) ((clssOf q (looseW q loose)).map (·.name)) && s.heap.accountedOkI mods && s.heap.isNs mainGlobals && s.heap.isNs builtinsNs && tablesOk q s.heap && Xt s && (s.gens.size == 0)) = true)
    (a4 : (tabsOk q s, pinSeenD q (drecsOf q) s, plainSeenE q (looseW q loose) s, plainSeenD q loose s, wideSeen q s, clsSeenW q loose s) = (true, pinGoodD (drecsOf q), plainGoodE q (looseW q loose), plainGoodD q loose, wideGood q, clsGoodW q loose)) :
    openSeen q loose mods Xt true s = openGood q loose :=
  congr (congrArg Prod.mk a1) (congr (congrArg Prod.mk a2) (congr (congrArg Prod.mk a3) a4))
/-- two runs of one text end in one state -/
theorem run_one {α : Type} {r : Option α} {s s' : α} (h : r = some s) (h' : r = some s') : s' = s := Option.some.inj (h'.symm.trans h)
end Desk
end
section
set_option Elab.async false
set_option linter.all false
set_option maxRecDepth 100000
namespace Desk
open PySem PySem.W PySem.Calls PyProof.Rows L2
/-! ## what the run of the text leaves, as far as the calls read it -/
def ks (s : String) : Str := Str.ofString s
def kvs (s : String) (n : Nat) : Value := .str (Str.ofString s) n
def kde (P : Params) (s : String) (n : Nat) (v : Value) : DictEntry := ⟨PyData.keyHash P (Str.ofString s), .str (Str.ofString s) n, v⟩
noncomputable def kpart : Params → Frag := fun P => (
  (nat_lit 2, Obj.mk .none none (Data.dict #[kde P "type.__subclasses__.Exception.0" 437 (.int 143 0), kde P "type.__subclasses__.Exception.n" 438 (.int 3 0), kde P "type.__subclasses__.Exception.1" 466 (.int 163 0), kde P "type.__subclasses__.Exception.2" 495 (.int 183 0)] 4) #[]) ::
  (nat_lit 3, Obj.mk (.type "dict") none (Data.dict #[kde P "__name__" 165 (kvs "looseleavesdesk.findings" 784), kde P "__doc__" 166 .none, kde P "__package__" 167 .none, kde P "__loader__" 168 (.builtin "__main__.__loader__#opaque"), kde P "__spec__" 169 .none, kde P "__annotations__" 170 (.ref 6), kde P "__builtins__" 171 (.ref 4), kde P "__file__" 173 (kvs "/claim/cut.py" 172), kde P "__cached__" 174 .none, kde P "_wall" 193 (.ref 21), kde P "LINE_FEED" 195 (.int 10 194), kde P "BLANK" 197 (.int 32 196), kde P "BANG" 199 (.int 33 198), kde P "OPENING" 201 (.int 40 200), kde P "CLOSING" 203 (.int 41 202), kde P "SLASH" 205 (.int 47 204), kde P "ZERO" 207 (.int 48 206), kde P "NINE" 209 (.int 57 208), kde P "LESS" 211 (.int 60 210), kde P "EQUAL" 213 (.int 61 212), kde P "GREATER" 215 (.int 62 214), kde P "CARET" 217 (.int 94 216), kde P "LETTER_A" 219 (.int 97 218), kde P "LETTER_B" 221 (.int 98 220), kde P "LETTER_H" 223 (.int 104 222), kde P "LETTER_O" 225 (.int 111 224), kde P "BAR" 227 (.int 124 226), kde P "TILDE" 229 (.int 126 228), kde P "Lying" 279 (.ref 52), kde P "list_sides" 289 (.ref 63), kde P "number_sides" 299 (.ref 70), kde P "number_gatherings" 310 (.ref 77), kde P "find_partners" 322 (.ref 84), kde P "Finding" 357 (.ref 101), kde P "LyingLeaf" 390 (.ref 122), kde P "MOST_BYTES" 394 (.int 8192 393), kde P "MOST_LEAVES" 396 (.int 16 395), kde P "MOST_FINDINGS" 398 (.int 64 397), kde P "MOST_DIGITS" 400 (.int 3 399), kde P "TOO_LONG" 403 (.int (-2) 402), kde P "BOOK_AT_FAULT" 406 (.int (-3) 405), kde P "FINDINGS_AT_FAULT" 409 (.int (-6) 408), kde P "END" 412 (.int (-1) 411), kde P "TooLong" 440 (.ref 143), kde P "FindingsFault" 469 (.ref 163), kde P "BookFault" 498 (.ref 183), kde P "Seen" 529 (.ref 203), kde P "Case" 561 (.ref 224), kde P "read_case" 570 (.ref 235), kde P "need_short" 577 (.ref 242), kde P "Reader" 649 (.ref 294), kde P "read_number" 660 (.ref 305), kde P "read_letter" 667 (.ref 312), kde P "read_side" 676 (.ref 319), kde P "read_findings" 686 (.ref 326), kde P "read_finding" 696 (.ref 333), kde P "read_rising" 710 (.ref 340), kde P "read_related" 721 (.ref 347), kde P "read_behind_leaf" 734 (.ref 354), kde P "read_behind_side" 747 (.ref 361), kde P "read_book" 760 (.ref 368), kde P "read_whether_gathering_ends" 769 (.ref 375), kde P "read_lying_leaf" 783 (.ref 382), kde P "sides" 796 (.ref 389)] 64) #[]) ::
  (nat_lit 15, Obj.mk (.type "tuple") none (Data.seq #[]) #[]) ::
  (nat_lit 17, Obj.mk (.type "tuple") none (Data.seq #[kvs "k" 190]) #[]) ::
  (nat_lit 18, Obj.mk (.type "tuple") none (Data.seq #[]) #[]) ::
  (nat_lit 20, Obj.mk (.type "code") none (Data.fields #[kvs "_wall" 187, kvs "_wall" 188, kvs "/claim/cut.py" 189, .int 1 0, .int 1 0, .int 0 0, .int 0 0, .int 3 0, .ref 15, .bool true, .int 181 0, .ref 16, .none, .ref 17, .ref 18, .ref 19, .int 191 0, .int 1 0, kvs "/claim/cut.py" 192]) #[]) ::
  (nat_lit 21, Obj.mk (.type "function") none (Data.func (FuncData.mk (ks "_wall") (ks "_wall") (defArgs (top 0)) (.stmts (defBody (top 0))) (defScope (top 0)) 3 [] .none .none .none (kvs "__main__" 164) none (.ref 20) .none 0)) #[]) ::
  (nat_lit 29, Obj.mk (.type "tuple") none (Data.seq #[]) #[]) ::
  (nat_lit 31, Obj.mk (.type "tuple") none (Data.seq #[kvs "self" 247, kvs "gatherings" 248]) #[]) ::
  (nat_lit 32, Obj.mk (.type "tuple") none (Data.seq #[]) #[]) ::
  (nat_lit 34, Obj.mk (.type "code") none (Data.fields #[kvs "__init__" 244, kvs "Lying.__init__" 245, kvs "/claim/cut.py" 246, .int 25 0, .int 2 0, .int 0 0, .int 0 0, .int 3 0, .ref 29, .bool true, .int 181 0, .ref 30, .none, .ref 31, .ref 32, .ref 33, .int 249 0, .int 25 0, kvs "/claim/cut.py" 250]) #[]) ::
  (nat_lit 35, Obj.mk (.type "function") none (Data.func (FuncData.mk (ks "__init__") (ks "Lying.__init__") (defArgs (inClass (top 20) 0)) (.stmts (defBody (inClass (top 20) 0))) (defScope (inClass (top 20) 0)) 3 [] .none .none .none (kvs "looseleavesdesk.lying" 230) none (.ref 34) .none 0)) #[]) ::
  (nat_lit 36, Obj.mk (.type "tuple") none (Data.seq #[]) #[]) ::
  (nat_lit 38, Obj.mk (.type "tuple") none (Data.seq #[kvs "self" 255, kvs "leaf" 256]) #[]) ::
  (nat_lit 39, Obj.mk (.type "tuple") none (Data.seq #[]) #[]) ::
  (nat_lit 41, Obj.mk (.type "code") none (Data.fields #[kvs "leaf_place" 252, kvs "Lying.leaf_place" 253, kvs "/claim/cut.py" 254, .int 31 0, .int 2 0, .int 0 0, .int 0 0, .int 3 0, .ref 36, .bool true, .int 181 0, .ref 37, .none, .ref 38, .ref 39, .ref 40, .int 257 0, .int 31 0, kvs "/claim/cut.py" 258]) #[]) ::
  (nat_lit 42, Obj.mk (.type "function") none (Data.func (FuncData.mk (ks "leaf_place") (ks "Lying.leaf_place") (defArgs (inClass (top 20) 1)) (.stmts (defBody (inClass (top 20) 1))) (defScope (inClass (top 20) 1)) 3 [] .none .none .none (kvs "looseleavesdesk.lying" 230) none (.ref 41) .none 0)) #[]) ::
  (nat_lit 43, Obj.mk (.type "tuple") none (Data.seq #[]) #[]) ::
  (nat_lit 45, Obj.mk (.type "tuple") none (Data.seq #[kvs "self" 263, kvs "side" 264]) #[]) ::
  (nat_lit 46, Obj.mk (.type "tuple") none (Data.seq #[]) #[]) ::
  (nat_lit 48, Obj.mk (.type "code") none (Data.fields #[kvs "is_front" 260, kvs "Lying.is_front" 261, kvs "/claim/cut.py" 262, .int 34 0, .int 2 0, .int 0 0, .int 0 0, .int 3 0, .ref 43, .bool true, .int 181 0, .ref 44, .none, .ref 45, .ref 46, .ref 47, .int 265 0, .int 34 0, kvs "/claim/cut.py" 266]) #[]) ::
  (nat_lit 49, Obj.mk (.type "function") none (Data.func (FuncData.mk (ks "is_front") (ks "Lying.is_front") (defArgs (inClass (top 20) 2)) (.stmts (defBody (inClass (top 20) 2))) (defScope (inClass (top 20) 2)) 3 [] .none .none .none (kvs "looseleavesdesk.lying" 230) none (.ref 48) .none 0)) #[]) ::
  (nat_lit 50, Obj.mk (.type "tuple") none (Data.seq #[kvs "gathering_numbers" 268, kvs "partners" 269, kvs "side_places" 270, kvs "sides_in_order" 271]) #[]) ::
  (nat_lit 51, Obj.mk (.type "dict") none (Data.dict #[kde P "__module__" 239 (kvs "looseleavesdesk.lying" 230), kde P "__firstlineno__" 243 (.int 23 242), kde P "__init__" 251 (.ref 35), kde P "leaf_place" 259 (.ref 42), kde P "is_front" 267 (.ref 49), kde P "__static_attributes__" 272 (.ref 50), kde P "__dict__" 274 (.ref 53), kde P "__weakref__" 276 (.ref 54), kde P "__doc__" 277 .none] 4) #[]) ::
  (nat_lit 52, Obj.mk (.type "type") none (Data.cls (ClassData.mk (ks "Lying") [.type "object"] [.ref 52, .type "object"] 51 (ks "Lying") true [] [] false none false)) #[none, none, some (kvs "Lying" 232), some (kvs "Lying" 240), some (.builtin "object.__new__"), some (.bool true)]) ::
  (nat_lit 53, Obj.mk (.type "getset_descriptor") none (Data.fields #[kvs "__dict__" 273, .ref 52, .builtin "function.__dict__", .builtin "function.__dict__#set"]) #[]) ::
  (nat_lit 54, Obj.mk (.type "getset_descriptor") none (Data.fields #[kvs "__weakref__" 275, .ref 52, .builtin "ExceptionGroup.__weakref__", .none]) #[]) ::
  (nat_lit 57, Obj.mk (.type "tuple") none (Data.seq #[]) #[]) ::
  (nat_lit 59, Obj.mk (.type "tuple") none (Data.seq #[kvs "gatherings" 283, kvs "sides" 284, kvs "gathering" 285, kvs "leaf" 286]) #[]) ::
  (nat_lit 60, Obj.mk (.type "tuple") none (Data.seq #[]) #[]) ::
  (nat_lit 62, Obj.mk (.type "code") none (Data.fields #[kvs "list_sides" 280, kvs "list_sides" 281, kvs "/claim/cut.py" 282, .int 36 0, .int 1 0, .int 0 0, .int 0 0, .int 3 0, .ref 57, .bool true, .int 181 0, .ref 58, .none, .ref 59, .ref 60, .ref 61, .int 287 0, .int 36 0, kvs "/claim/cut.py" 288]) #[]) ::
  (nat_lit 63, Obj.mk (.type "function") none (Data.func (FuncData.mk (ks "list_sides") (ks "list_sides") (defArgs (top 21)) (.stmts (defBody (top 21))) (defScope (top 21)) 3 [] .none .none .none (kvs "looseleavesdesk.lying" 230) none (.ref 62) .none 0)) #[]) ::
  (nat_lit 64, Obj.mk (.type "tuple") none (Data.seq #[]) #[]) ::
  (nat_lit 66, Obj.mk (.type "tuple") none (Data.seq #[kvs "sides" 293, kvs "places" 294, kvs "place" 295, kvs "side" 296]) #[]) ::
  (nat_lit 67, Obj.mk (.type "tuple") none (Data.seq #[]) #[]) ::
  (nat_lit 69, Obj.mk (.type "code") none (Data.fields #[kvs "number_sides" 290, kvs "number_sides" 291, kvs "/claim/cut.py" 292, .int 43 0, .int 1 0, .int 0 0, .int 0 0, .int 3 0, .ref 64, .bool true, .int 181 0, .ref 65, .none, .ref 66, .ref 67, .ref 68, .int 297 0, .int 43 0, kvs "/claim/cut.py" 298]) #[]) ::
  (nat_lit 70, Obj.mk (.type "function") none (Data.func (FuncData.mk (ks "number_sides") (ks "number_sides") (defArgs (top 22)) (.stmts (defBody (top 22))) (defScope (top 22)) 3 [] .none .none .none (kvs "looseleavesdesk.lying" 230) none (.ref 69) .none 0)) #[]) ::
  (nat_lit 71, Obj.mk (.type "tuple") none (Data.seq #[]) #[]) ::
  (nat_lit 73, Obj.mk (.type "tuple") none (Data.seq #[kvs "gatherings" 303, kvs "numbers" 304, kvs "number" 305, kvs "gathering" 306, kvs "leaf" 307]) #[]) ::
  (nat_lit 74, Obj.mk (.type "tuple") none (Data.seq #[]) #[]) ::
  (nat_lit 76, Obj.mk (.type "code") none (Data.fields #[kvs "number_gatherings" 300, kvs "number_gatherings" 301, kvs "/claim/cut.py" 302, .int 48 0, .int 1 0, .int 0 0, .int 0 0, .int 3 0, .ref 71, .bool true, .int 181 0, .ref 72, .none, .ref 73, .ref 74, .ref 75, .int 308 0, .int 48 0, kvs "/claim/cut.py" 309]) #[]) ::
  (nat_lit 77, Obj.mk (.type "function") none (Data.func (FuncData.mk (ks "number_gatherings") (ks "number_gatherings") (defArgs (top 23)) (.stmts (defBody (top 23))) (defScope (top 23)) 3 [] .none .none .none (kvs "looseleavesdesk.lying" 230) none (.ref 76) .none 0)) #[]) ::
  (nat_lit 78, Obj.mk (.type "tuple") none (Data.seq #[]) #[]) ::
  (nat_lit 80, Obj.mk (.type "tuple") none (Data.seq #[kvs "gatherings" 314, kvs "partners" 315, kvs "waiting" 316, kvs "gathering" 317, kvs "leaf" 318, kvs "partner" 319]) #[]) ::
  (nat_lit 81, Obj.mk (.type "tuple") none (Data.seq #[]) #[]) ::
  (nat_lit 83, Obj.mk (.type "code") none (Data.fields #[kvs "find_partners" 311, kvs "find_partners" 312, kvs "/claim/cut.py" 313, .int 54 0, .int 1 0, .int 0 0, .int 0 0, .int 3 0, .ref 78, .bool true, .int 181 0, .ref 79, .none, .ref 80, .ref 81, .ref 82, .int 320 0, .int 54 0, kvs "/claim/cut.py" 321]) #[]) ::
  (nat_lit 84, Obj.mk (.type "function") none (Data.func (FuncData.mk (ks "find_partners") (ks "find_partners") (defArgs (top 24)) (.stmts (defBody (top 24))) (defScope (top 24)) 3 [] .none .none .none (kvs "looseleavesdesk.lying" 230) none (.ref 83) .none 0)) #[]) ::
  (nat_lit 92, Obj.mk (.type "tuple") none (Data.seq #[]) #[]) ::
  (nat_lit 94, Obj.mk (.type "tuple") none (Data.seq #[kvs "self" 340, kvs "negated" 341, kvs "sign" 342, kvs "told" 343]) #[]) ::
  (nat_lit 95, Obj.mk (.type "tuple") none (Data.seq #[]) #[]) ::
  (nat_lit 97, Obj.mk (.type "code") none (Data.fields #[kvs "__init__" 337, kvs "Finding.__init__" 338, kvs "/claim/cut.py" 339, .int 70 0, .int 4 0, .int 0 0, .int 0 0, .int 3 0, .ref 92, .bool true, .int 181 0, .ref 93, .none, .ref 94, .ref 95, .ref 96, .int 344 0, .int 70 0, kvs "/claim/cut.py" 345]) #[]) ::
  (nat_lit 98, Obj.mk (.type "function") none (Data.func (FuncData.mk (ks "__init__") (ks "Finding.__init__") (defArgs (inClass (top 26) 0)) (.stmts (defBody (inClass (top 26) 0))) (defScope (inClass (top 26) 0)) 3 [] .none .none .none (kvs "looseleavesdesk.parts" 323) none (.ref 97) .none 0)) #[]) ::
  (nat_lit 99, Obj.mk (.type "tuple") none (Data.seq #[kvs "negated" 347, kvs "sign" 348, kvs "told" 349]) #[]) ::
  (nat_lit 100, Obj.mk (.type "dict") none (Data.dict #[kde P "__module__" 332 (kvs "looseleavesdesk.parts" 323), kde P "__firstlineno__" 336 (.int 68 335), kde P "__init__" 346 (.ref 98), kde P "__static_attributes__" 350 (.ref 99), kde P "__dict__" 352 (.ref 102), kde P "__weakref__" 354 (.ref 103), kde P "__doc__" 355 .none] 4) #[]) ::
  (nat_lit 101, Obj.mk (.type "type") none (Data.cls (ClassData.mk (ks "Finding") [.type "object"] [.ref 101, .type "object"] 100 (ks "Finding") true [] [] false none false)) #[none, none, some (kvs "Finding" 325), some (kvs "Finding" 333), some (.builtin "object.__new__"), some (.bool true)]) ::
  (nat_lit 102, Obj.mk (.type "getset_descriptor") none (Data.fields #[kvs "__dict__" 351, .ref 101, .builtin "function.__dict__", .builtin "function.__dict__#set"]) #[]) ::
  (nat_lit 103, Obj.mk (.type "getset_descriptor") none (Data.fields #[kvs "__weakref__" 353, .ref 101, .builtin "ExceptionGroup.__weakref__", .none]) #[]) ::
  (nat_lit 113, Obj.mk (.type "tuple") none (Data.seq #[]) #[]) ::
  (nat_lit 115, Obj.mk (.type "tuple") none (Data.seq #[kvs "self" 373, kvs "number" 374, kvs "front" 375, kvs "sign" 376]) #[]) ::
  (nat_lit 116, Obj.mk (.type "tuple") none (Data.seq #[]) #[]) ::
  (nat_lit 118, Obj.mk (.type "code") none (Data.fields #[kvs "__init__" 370, kvs "LyingLeaf.__init__" 371, kvs "/claim/cut.py" 372, .int 76 0, .int 4 0, .int 0 0, .int 0 0, .int 3 0, .ref 113, .bool true, .int 181 0, .ref 114, .none, .ref 115, .ref 116, .ref 117, .int 377 0, .int 76 0, kvs "/claim/cut.py" 378]) #[]) ::
  (nat_lit 119, Obj.mk (.type "function") none (Data.func (FuncData.mk (ks "__init__") (ks "LyingLeaf.__init__") (defArgs (inClass (top 27) 0)) (.stmts (defBody (inClass (top 27) 0))) (defScope (inClass (top 27) 0)) 3 [] .none .none .none (kvs "looseleavesdesk.parts" 323) none (.ref 118) .none 0)) #[]) ::
  (nat_lit 120, Obj.mk (.type "tuple") none (Data.seq #[kvs "front" 380, kvs "number" 381, kvs "sign" 382]) #[]) ::
  (nat_lit 121, Obj.mk (.type "dict") none (Data.dict #[kde P "__module__" 365 (kvs "looseleavesdesk.parts" 323), kde P "__firstlineno__" 369 (.int 74 368), kde P "__init__" 379 (.ref 119), kde P "__static_attributes__" 383 (.ref 120), kde P "__dict__" 385 (.ref 123), kde P "__weakref__" 387 (.ref 124), kde P "__doc__" 388 .none] 4) #[]) ::
  (nat_lit 122, Obj.mk (.type "type") none (Data.cls (ClassData.mk (ks "LyingLeaf") [.type "object"] [.ref 122, .type "object"] 121 (ks "LyingLeaf") true [] [] false none false)) #[none, none, some (kvs "LyingLeaf" 358), some (kvs "LyingLeaf" 366), some (.builtin "object.__new__"), some (.bool true)]) ::
  (nat_lit 123, Obj.mk (.type "getset_descriptor") none (Data.fields #[kvs "__dict__" 384, .ref 122, .builtin "function.__dict__", .builtin "function.__dict__#set"]) #[]) ::
  (nat_lit 124, Obj.mk (.type "getset_descriptor") none (Data.fields #[kvs "__weakref__" 386, .ref 122, .builtin "ExceptionGroup.__weakref__", .none]) #[]) ::
  (nat_lit 127, Obj.mk (.type "tuple") none (Data.seq #[.type "Exception"]) #[]) ::
  (nat_lit 134, Obj.mk (.type "tuple") none (Data.seq #[]) #[]) ::
  (nat_lit 136, Obj.mk (.type "tuple") none (Data.seq #[kvs "self" 428]) #[]) ::
  (nat_lit 137, Obj.mk (.type "tuple") none (Data.seq #[]) #[]) ::
  (nat_lit 139, Obj.mk (.type "code") none (Data.fields #[kvs "__init__" 425, kvs "TooLong.__init__" 426, kvs "/claim/cut.py" 427, .int 91 0, .int 1 0, .int 0 0, .int 0 0, .int 3 0, .ref 134, .bool true, .int 181 0, .ref 135, .none, .ref 136, .ref 137, .ref 138, .int 429 0, .int 91 0, kvs "/claim/cut.py" 430]) #[]) ::
  (nat_lit 140, Obj.mk (.type "function") none (Data.func (FuncData.mk (ks "__init__") (ks "TooLong.__init__") (defArgs (inClass (top 37) 0)) (.stmts (defBody (inClass (top 37) 0))) (defScope (inClass (top 37) 0)) 3 [] .none .none .none (kvs "looseleavesdesk.reading" 391) none (.ref 139) .none 0)) #[]) ::
  (nat_lit 141, Obj.mk (.type "tuple") none (Data.seq #[kvs "answer" 432]) #[]) ::
  (nat_lit 142, Obj.mk (.type "dict") none (Data.dict #[kde P "__module__" 420 (kvs "looseleavesdesk.reading" 391), kde P "__firstlineno__" 424 (.int 89 423), kde P "__init__" 431 (.ref 140), kde P "__static_attributes__" 433 (.ref 141), kde P "__weakref__" 435 (.ref 144), kde P "__doc__" 436 .none] 3) #[]) ::
  (nat_lit 143, Obj.mk (.type "type") none (Data.cls (ClassData.mk (ks "TooLong") [.type "Exception"] [.ref 143, .type "Exception", .type "BaseException", .type "object"] 142 (ks "TooLong") true [] [] false none false)) #[some (.ref 127), none, some (kvs "TooLong" 413), some (kvs "TooLong" 421), some (.builtin "Exception.__new__"), some (.bool true)]) ::
  (nat_lit 144, Obj.mk (.type "getset_descriptor") none (Data.fields #[kvs "__weakref__" 434, .ref 143, .builtin "ExceptionGroup.__weakref__", .none]) #[]) ::
  (nat_lit 147, Obj.mk (.type "tuple") none (Data.seq #[.type "Exception"]) #[]) ::
  (nat_lit 154, Obj.mk (.type "tuple") none (Data.seq #[]) #[]) ::
  (nat_lit 156, Obj.mk (.type "tuple") none (Data.seq #[kvs "self" 456, kvs "place" 457]) #[]) ::
  (nat_lit 157, Obj.mk (.type "tuple") none (Data.seq #[]) #[]) ::
  (nat_lit 159, Obj.mk (.type "code") none (Data.fields #[kvs "__init__" 453, kvs "FindingsFault.__init__" 454, kvs "/claim/cut.py" 455, .int 95 0, .int 2 0, .int 0 0, .int 0 0, .int 3 0, .ref 154, .bool true, .int 181 0, .ref 155, .none, .ref 156, .ref 157, .ref 158, .int 458 0, .int 95 0, kvs "/claim/cut.py" 459]) #[]) ::
  (nat_lit 160, Obj.mk (.type "function") none (Data.func (FuncData.mk (ks "__init__") (ks "FindingsFault.__init__") (defArgs (inClass (top 38) 0)) (.stmts (defBody (inClass (top 38) 0))) (defScope (inClass (top 38) 0)) 3 [] .none .none .none (kvs "looseleavesdesk.reading" 391) none (.ref 159) .none 0)) #[]) ::
  (nat_lit 161, Obj.mk (.type "tuple") none (Data.seq #[kvs "answer" 461]) #[]) ::
  (nat_lit 162, Obj.mk (.type "dict") none (Data.dict #[kde P "__module__" 448 (kvs "looseleavesdesk.reading" 391), kde P "__firstlineno__" 452 (.int 93 451), kde P "__init__" 460 (.ref 160), kde P "__static_attributes__" 462 (.ref 161), kde P "__weakref__" 464 (.ref 164), kde P "__doc__" 465 .none] 3) #[]) ::
  (nat_lit 163, Obj.mk (.type "type") none (Data.cls (ClassData.mk (ks "FindingsFault") [.type "Exception"] [.ref 163, .type "Exception", .type "BaseException", .type "object"] 162 (ks "FindingsFault") true [] [] false none false)) #[some (.ref 147), none, some (kvs "FindingsFault" 441), some (kvs "FindingsFault" 449), some (.builtin "Exception.__new__"), some (.bool true)]) ::
  (nat_lit 164, Obj.mk (.type "getset_descriptor") none (Data.fields #[kvs "__weakref__" 463, .ref 163, .builtin "ExceptionGroup.__weakref__", .none]) #[]) ::
  (nat_lit 167, Obj.mk (.type "tuple") none (Data.seq #[.type "Exception"]) #[]) ::
  (nat_lit 174, Obj.mk (.type "tuple") none (Data.seq #[]) #[]) ::
  (nat_lit 176, Obj.mk (.type "tuple") none (Data.seq #[kvs "self" 485, kvs "place" 486]) #[]) ::
  (nat_lit 177, Obj.mk (.type "tuple") none (Data.seq #[]) #[]) ::
  (nat_lit 179, Obj.mk (.type "code") none (Data.fields #[kvs "__init__" 482, kvs "BookFault.__init__" 483, kvs "/claim/cut.py" 484, .int 99 0, .int 2 0, .int 0 0, .int 0 0, .int 3 0, .ref 174, .bool true, .int 181 0, .ref 175, .none, .ref 176, .ref 177, .ref 178, .int 487 0, .int 99 0, kvs "/claim/cut.py" 488]) #[]) ::
  (nat_lit 180, Obj.mk (.type "function") none (Data.func (FuncData.mk (ks "__init__") (ks "BookFault.__init__") (defArgs (inClass (top 39) 0)) (.stmts (defBody (inClass (top 39) 0))) (defScope (inClass (top 39) 0)) 3 [] .none .none .none (kvs "looseleavesdesk.reading" 391) none (.ref 179) .none 0)) #[]) ::
  (nat_lit 181, Obj.mk (.type "tuple") none (Data.seq #[kvs "answer" 490]) #[]) ::
  (nat_lit 182, Obj.mk (.type "dict") none (Data.dict #[kde P "__module__" 477 (kvs "looseleavesdesk.reading" 391), kde P "__firstlineno__" 481 (.int 97 480), kde P "__init__" 489 (.ref 180), kde P "__static_attributes__" 491 (.ref 181), kde P "__weakref__" 493 (.ref 184), kde P "__doc__" 494 .none] 3) #[]) ::
  (nat_lit 183, Obj.mk (.type "type") none (Data.cls (ClassData.mk (ks "BookFault") [.type "Exception"] [.ref 183, .type "Exception", .type "BaseException", .type "object"] 182 (ks "BookFault") true [] [] false none false)) #[some (.ref 167), none, some (kvs "BookFault" 470), some (kvs "BookFault" 478), some (.builtin "Exception.__new__"), some (.bool true)]) ::
  (nat_lit 184, Obj.mk (.type "getset_descriptor") none (Data.fields #[kvs "__weakref__" 492, .ref 183, .builtin "ExceptionGroup.__weakref__", .none]) #[]) ::
  (nat_lit 194, Obj.mk (.type "tuple") none (Data.seq #[]) #[]) ::
  (nat_lit 196, Obj.mk (.type "tuple") none (Data.seq #[kvs "self" 514, kvs "leaves" 515, kvs "findings" 516]) #[]) ::
  (nat_lit 197, Obj.mk (.type "tuple") none (Data.seq #[]) #[]) ::
  (nat_lit 199, Obj.mk (.type "code") none (Data.fields #[kvs "__init__" 511, kvs "Seen.__init__" 512, kvs "/claim/cut.py" 513, .int 103 0, .int 3 0, .int 0 0, .int 0 0, .int 3 0, .ref 194, .bool true, .int 181 0, .ref 195, .none, .ref 196, .ref 197, .ref 198, .int 517 0, .int 103 0, kvs "/claim/cut.py" 518]) #[]) ::
  (nat_lit 200, Obj.mk (.type "function") none (Data.func (FuncData.mk (ks "__init__") (ks "Seen.__init__") (defArgs (inClass (top 40) 0)) (.stmts (defBody (inClass (top 40) 0))) (defScope (inClass (top 40) 0)) 3 [] .none .none .none (kvs "looseleavesdesk.reading" 391) none (.ref 199) .none 0)) #[]) ::
  (nat_lit 201, Obj.mk (.type "tuple") none (Data.seq #[kvs "findings" 520, kvs "leaves" 521]) #[]) ::
  (nat_lit 202, Obj.mk (.type "dict") none (Data.dict #[kde P "__module__" 506 (kvs "looseleavesdesk.reading" 391), kde P "__firstlineno__" 510 (.int 101 509), kde P "__init__" 519 (.ref 200), kde P "__static_attributes__" 522 (.ref 201), kde P "__dict__" 524 (.ref 204), kde P "__weakref__" 526 (.ref 205), kde P "__doc__" 527 .none] 4) #[]) ::
  (nat_lit 203, Obj.mk (.type "type") none (Data.cls (ClassData.mk (ks "Seen") [.type "object"] [.ref 203, .type "object"] 202 (ks "Seen") true [] [] false none false)) #[none, none, some (kvs "Seen" 499), some (kvs "Seen" 507), some (.builtin "object.__new__"), some (.bool true)]) ::
  (nat_lit 204, Obj.mk (.type "getset_descriptor") none (Data.fields #[kvs "__dict__" 523, .ref 203, .builtin "function.__dict__", .builtin "function.__dict__#set"]) #[]) ::
  (nat_lit 205, Obj.mk (.type "getset_descriptor") none (Data.fields #[kvs "__weakref__" 525, .ref 203, .builtin "ExceptionGroup.__weakref__", .none]) #[]) ::
  (nat_lit 215, Obj.mk (.type "tuple") none (Data.seq #[]) #[]) ::
  (nat_lit 217, Obj.mk (.type "tuple") none (Data.seq #[kvs "self" 545, kvs "seen" 546, kvs "gatherings" 547]) #[]) ::
  (nat_lit 218, Obj.mk (.type "tuple") none (Data.seq #[]) #[]) ::
  (nat_lit 220, Obj.mk (.type "code") none (Data.fields #[kvs "__init__" 542, kvs "Case.__init__" 543, kvs "/claim/cut.py" 544, .int 108 0, .int 3 0, .int 0 0, .int 0 0, .int 3 0, .ref 215, .bool true, .int 181 0, .ref 216, .none, .ref 217, .ref 218, .ref 219, .int 548 0, .int 108 0, kvs "/claim/cut.py" 549]) #[]) ::
  (nat_lit 221, Obj.mk (.type "function") none (Data.func (FuncData.mk (ks "__init__") (ks "Case.__init__") (defArgs (inClass (top 41) 0)) (.stmts (defBody (inClass (top 41) 0))) (defScope (inClass (top 41) 0)) 3 [] .none .none .none (kvs "looseleavesdesk.reading" 391) none (.ref 220) .none 0)) #[]) ::
  (nat_lit 222, Obj.mk (.type "tuple") none (Data.seq #[kvs "findings" 551, kvs "gatherings" 552, kvs "leaves" 553]) #[]) ::
  (nat_lit 223, Obj.mk (.type "dict") none (Data.dict #[kde P "__module__" 537 (kvs "looseleavesdesk.reading" 391), kde P "__firstlineno__" 541 (.int 106 540), kde P "__init__" 550 (.ref 221), kde P "__static_attributes__" 554 (.ref 222), kde P "__dict__" 556 (.ref 225), kde P "__weakref__" 558 (.ref 226), kde P "__doc__" 559 .none] 4) #[]) ::
  (nat_lit 224, Obj.mk (.type "type") none (Data.cls (ClassData.mk (ks "Case") [.type "object"] [.ref 224, .type "object"] 223 (ks "Case") true [] [] false none false)) #[none, none, some (kvs "Case" 530), some (kvs "Case" 538), some (.builtin "object.__new__"), some (.bool true)]) ::
  (nat_lit 225, Obj.mk (.type "getset_descriptor") none (Data.fields #[kvs "__dict__" 555, .ref 224, .builtin "function.__dict__", .builtin "function.__dict__#set"]) #[]) ::
  (nat_lit 226, Obj.mk (.type "getset_descriptor") none (Data.fields #[kvs "__weakref__" 557, .ref 224, .builtin "ExceptionGroup.__weakref__", .none]) #[]) ::
  (nat_lit 229, Obj.mk (.type "tuple") none (Data.seq #[]) #[]) ::
  (nat_lit 231, Obj.mk (.type "tuple") none (Data.seq #[kvs "t" 565, kvs "u" 566, kvs "seen" 567]) #[]) ::
  (nat_lit 232, Obj.mk (.type "tuple") none (Data.seq #[]) #[]) ::
  (nat_lit 234, Obj.mk (.type "code") none (Data.fields #[kvs "read_case" 562, kvs "read_case" 563, kvs "/claim/cut.py" 564, .int 112 0, .int 2 0, .int 0 0, .int 0 0, .int 3 0, .ref 229, .bool true, .int 181 0, .ref 230, .none, .ref 231, .ref 232, .ref 233, .int 568 0, .int 112 0, kvs "/claim/cut.py" 569]) #[]) ::
  (nat_lit 235, Obj.mk (.type "function") none (Data.func (FuncData.mk (ks "read_case") (ks "read_case") (defArgs (top 42)) (.stmts (defBody (top 42))) (defScope (top 42)) 3 [] .none .none .none (kvs "looseleavesdesk.reading" 391) none (.ref 234) .none 0)) #[]) ::
  (nat_lit 236, Obj.mk (.type "tuple") none (Data.seq #[]) #[]) ::
  (nat_lit 238, Obj.mk (.type "tuple") none (Data.seq #[kvs "text" 574]) #[]) ::
  (nat_lit 239, Obj.mk (.type "tuple") none (Data.seq #[]) #[]) ::
  (nat_lit 241, Obj.mk (.type "code") none (Data.fields #[kvs "need_short" 571, kvs "need_short" 572, kvs "/claim/cut.py" 573, .int 117 0, .int 1 0, .int 0 0, .int 0 0, .int 3 0, .ref 236, .bool true, .int 181 0, .ref 237, .none, .ref 238, .ref 239, .ref 240, .int 575 0, .int 117 0, kvs "/claim/cut.py" 576]) #[]) ::
  (nat_lit 242, Obj.mk (.type "function") none (Data.func (FuncData.mk (ks "need_short") (ks "need_short") (defArgs (top 43)) (.stmts (defBody (top 43))) (defScope (top 43)) 3 [] .none .none .none (kvs "looseleavesdesk.reading" 391) none (.ref 241) .none 0)) #[]) ::
  (nat_lit 250, Obj.mk (.type "tuple") none (Data.seq #[]) #[]) ::
  (nat_lit 252, Obj.mk (.type "tuple") none (Data.seq #[kvs "self" 593, kvs "text" 594, kvs "of_book" 595]) #[]) ::
  (nat_lit 253, Obj.mk (.type "tuple") none (Data.seq #[]) #[]) ::
  (nat_lit 255, Obj.mk (.type "code") none (Data.fields #[kvs "__init__" 590, kvs "Reader.__init__" 591, kvs "/claim/cut.py" 592, .int 122 0, .int 3 0, .int 0 0, .int 0 0, .int 3 0, .ref 250, .bool true, .int 181 0, .ref 251, .none, .ref 252, .ref 253, .ref 254, .int 596 0, .int 122 0, kvs "/claim/cut.py" 597]) #[]) ::
  (nat_lit 256, Obj.mk (.type "function") none (Data.func (FuncData.mk (ks "__init__") (ks "Reader.__init__") (defArgs (inClass (top 44) 0)) (.stmts (defBody (inClass (top 44) 0))) (defScope (inClass (top 44) 0)) 3 [] .none .none .none (kvs "looseleavesdesk.reading" 391) none (.ref 255) .none 0)) #[]) ::
  (nat_lit 257, Obj.mk (.type "tuple") none (Data.seq #[]) #[]) ::
  (nat_lit 259, Obj.mk (.type "tuple") none (Data.seq #[kvs "self" 602, kvs "place" 603]) #[]) ::
  (nat_lit 260, Obj.mk (.type "tuple") none (Data.seq #[]) #[]) ::
  (nat_lit 262, Obj.mk (.type "code") none (Data.fields #[kvs "fail" 599, kvs "Reader.fail" 600, kvs "/claim/cut.py" 601, .int 127 0, .int 2 0, .int 0 0, .int 0 0, .int 3 0, .ref 257, .bool true, .int 181 0, .ref 258, .none, .ref 259, .ref 260, .ref 261, .int 604 0, .int 127 0, kvs "/claim/cut.py" 605]) #[]) ::
  (nat_lit 263, Obj.mk (.type "function") none (Data.func (FuncData.mk (ks "fail") (ks "Reader.fail") (defArgs (inClass (top 44) 1)) (.stmts (defBody (inClass (top 44) 1))) (defScope (inClass (top 44) 1)) 3 [] .none .none .none (kvs "looseleavesdesk.reading" 391) none (.ref 262) .none 0)) #[]) ::
  (nat_lit 264, Obj.mk (.type "tuple") none (Data.seq #[]) #[]) ::
  (nat_lit 266, Obj.mk (.type "tuple") none (Data.seq #[kvs "self" 610]) #[]) ::
  (nat_lit 267, Obj.mk (.type "tuple") none (Data.seq #[]) #[]) ::
  (nat_lit 269, Obj.mk (.type "code") none (Data.fields #[kvs "byte" 607, kvs "Reader.byte" 608, kvs "/claim/cut.py" 609, .int 132 0, .int 1 0, .int 0 0, .int 0 0, .int 3 0, .ref 264, .bool true, .int 181 0, .ref 265, .none, .ref 266, .ref 267, .ref 268, .int 611 0, .int 132 0, kvs "/claim/cut.py" 612]) #[]) ::
  (nat_lit 270, Obj.mk (.type "function") none (Data.func (FuncData.mk (ks "byte") (ks "Reader.byte") (defArgs (inClass (top 44) 2)) (.stmts (defBody (inClass (top 44) 2))) (defScope (inClass (top 44) 2)) 3 [] .none .none .none (kvs "looseleavesdesk.reading" 391) none (.ref 269) .none 0)) #[]) ::
  (nat_lit 271, Obj.mk (.type "tuple") none (Data.seq #[]) #[]) ::
  (nat_lit 273, Obj.mk (.type "tuple") none (Data.seq #[kvs "self" 617]) #[]) ::
  (nat_lit 274, Obj.mk (.type "tuple") none (Data.seq #[]) #[]) ::
  (nat_lit 276, Obj.mk (.type "code") none (Data.fields #[kvs "step" 614, kvs "Reader.step" 615, kvs "/claim/cut.py" 616, .int 137 0, .int 1 0, .int 0 0, .int 0 0, .int 3 0, .ref 271, .bool true, .int 181 0, .ref 272, .none, .ref 273, .ref 274, .ref 275, .int 618 0, .int 137 0, kvs "/claim/cut.py" 619]) #[]) ::
  (nat_lit 277, Obj.mk (.type "function") none (Data.func (FuncData.mk (ks "step") (ks "Reader.step") (defArgs (inClass (top 44) 3)) (.stmts (defBody (inClass (top 44) 3))) (defScope (inClass (top 44) 3)) 3 [] .none .none .none (kvs "looseleavesdesk.reading" 391) none (.ref 276) .none 0)) #[]) ::
  (nat_lit 278, Obj.mk (.type "tuple") none (Data.seq #[]) #[]) ::
  (nat_lit 280, Obj.mk (.type "tuple") none (Data.seq #[kvs "self" 624, kvs "allowed" 625, kvs "found" 626]) #[]) ::
  (nat_lit 281, Obj.mk (.type "tuple") none (Data.seq #[]) #[]) ::
  (nat_lit 283, Obj.mk (.type "code") none (Data.fields #[kvs "need" 621, kvs "Reader.need" 622, kvs "/claim/cut.py" 623, .int 140 0, .int 2 0, .int 0 0, .int 0 0, .int 3 0, .ref 278, .bool true, .int 181 0, .ref 279, .none, .ref 280, .ref 281, .ref 282, .int 627 0, .int 140 0, kvs "/claim/cut.py" 628]) #[]) ::
  (nat_lit 284, Obj.mk (.type "function") none (Data.func (FuncData.mk (ks "need") (ks "Reader.need") (defArgs (inClass (top 44) 4)) (.stmts (defBody (inClass (top 44) 4))) (defScope (inClass (top 44) 4)) 3 [] .none .none .none (kvs "looseleavesdesk.reading" 391) none (.ref 283) .none 0)) #[]) ::
  (nat_lit 285, Obj.mk (.type "tuple") none (Data.seq #[]) #[]) ::
  (nat_lit 287, Obj.mk (.type "tuple") none (Data.seq #[kvs "self" 633, kvs "start" 634, kvs "worth" 635]) #[]) ::
  (nat_lit 288, Obj.mk (.type "tuple") none (Data.seq #[]) #[]) ::
  (nat_lit 290, Obj.mk (.type "code") none (Data.fields #[kvs "take_number" 630, kvs "Reader.take_number" 631, kvs "/claim/cut.py" 632, .int 147 0, .int 1 0, .int 0 0, .int 0 0, .int 3 0, .ref 285, .bool true, .int 181 0, .ref 286, .none, .ref 287, .ref 288, .ref 289, .int 636 0, .int 147 0, kvs "/claim/cut.py" 637]) #[]) ::
  (nat_lit 291, Obj.mk (.type "function") none (Data.func (FuncData.mk (ks "take_number") (ks "Reader.take_number") (defArgs (inClass (top 44) 5)) (.stmts (defBody (inClass (top 44) 5))) (defScope (inClass (top 44) 5)) 3 [] .none .none .none (kvs "looseleavesdesk.reading" 391) none (.ref 290) .none 0)) #[]) ::
  (nat_lit 292, Obj.mk (.type "tuple") none (Data.seq #[kvs "of_book" 639, kvs "place" 640, kvs "text" 641]) #[]) ::
  (nat_lit 293, Obj.mk (.type "dict") none (Data.dict #[kde P "__module__" 585 (kvs "looseleavesdesk.reading" 391), kde P "__firstlineno__" 589 (.int 120 588), kde P "__init__" 598 (.ref 256), kde P "fail" 606 (.ref 263), kde P "byte" 613 (.ref 270), kde P "step" 620 (.ref 277), kde P "need" 629 (.ref 284), kde P "take_number" 638 (.ref 291), kde P "__static_attributes__" 642 (.ref 292), kde P "__dict__" 644 (.ref 295), kde P "__weakref__" 646 (.ref 296), kde P "__doc__" 647 .none] 4) #[]) ::
  (nat_lit 294, Obj.mk (.type "type") none (Data.cls (ClassData.mk (ks "Reader") [.type "object"] [.ref 294, .type "object"] 293 (ks "Reader") true [] [] false none false)) #[none, none, some (kvs "Reader" 578), some (kvs "Reader" 586), some (.builtin "object.__new__"), some (.bool true)]) ::
  (nat_lit 295, Obj.mk (.type "getset_descriptor") none (Data.fields #[kvs "__dict__" 643, .ref 294, .builtin "function.__dict__", .builtin "function.__dict__#set"]) #[]) ::
  (nat_lit 296, Obj.mk (.type "getset_descriptor") none (Data.fields #[kvs "__weakref__" 645, .ref 294, .builtin "ExceptionGroup.__weakref__", .none]) #[]) ::
  (nat_lit 299, Obj.mk (.type "tuple") none (Data.seq #[]) #[]) ::
  (nat_lit 301, Obj.mk (.type "tuple") none (Data.seq #[kvs "reader" 653, kvs "least" 654, kvs "most" 655, kvs "start" 656, kvs "number" 657]) #[]) ::
  (nat_lit 302, Obj.mk (.type "tuple") none (Data.seq #[]) #[]) ::
  (nat_lit 304, Obj.mk (.type "code") none (Data.fields #[kvs "read_number" 650, kvs "read_number" 651, kvs "/claim/cut.py" 652, .int 158 0, .int 3 0, .int 0 0, .int 0 0, .int 3 0, .ref 299, .bool true, .int 181 0, .ref 300, .none, .ref 301, .ref 302, .ref 303, .int 658 0, .int 158 0, kvs "/claim/cut.py" 659]) #[]) ::
  (nat_lit 305, Obj.mk (.type "function") none (Data.func (FuncData.mk (ks "read_number") (ks "read_number") (defArgs (top 45)) (.stmts (defBody (top 45))) (defScope (top 45)) 3 [] .none .none .none (kvs "looseleavesdesk.reading" 391) none (.ref 304) .none 0)) #[]) ::
  (nat_lit 306, Obj.mk (.type "tuple") none (Data.seq #[]) #[]) ::
  (nat_lit 308, Obj.mk (.type "tuple") none (Data.seq #[kvs "reader" 664]) #[]) ::
  (nat_lit 309, Obj.mk (.type "tuple") none (Data.seq #[]) #[]) ::
  (nat_lit 311, Obj.mk (.type "code") none (Data.fields #[kvs "read_letter" 661, kvs "read_letter" 662, kvs "/claim/cut.py" 663, .int 164 0, .int 1 0, .int 0 0, .int 0 0, .int 3 0, .ref 306, .bool true, .int 181 0, .ref 307, .none, .ref 308, .ref 309, .ref 310, .int 665 0, .int 164 0, kvs "/claim/cut.py" 666]) #[]) ::
  (nat_lit 312, Obj.mk (.type "function") none (Data.func (FuncData.mk (ks "read_letter") (ks "read_letter") (defArgs (top 46)) (.stmts (defBody (top 46))) (defScope (top 46)) 3 [] .none .none .none (kvs "looseleavesdesk.reading" 391) none (.ref 311) .none 0)) #[]) ::
  (nat_lit 313, Obj.mk (.type "tuple") none (Data.seq #[]) #[]) ::
  (nat_lit 315, Obj.mk (.type "tuple") none (Data.seq #[kvs "reader" 671, kvs "leaves" 672, kvs "leaf" 673]) #[]) ::
  (nat_lit 316, Obj.mk (.type "tuple") none (Data.seq #[]) #[]) ::
  (nat_lit 318, Obj.mk (.type "code") none (Data.fields #[kvs "read_side" 668, kvs "read_side" 669, kvs "/claim/cut.py" 670, .int 166 0, .int 2 0, .int 0 0, .int 0 0, .int 3 0, .ref 313, .bool true, .int 181 0, .ref 314, .none, .ref 315, .ref 316, .ref 317, .int 674 0, .int 166 0, kvs "/claim/cut.py" 675]) #[]) ::
  (nat_lit 319, Obj.mk (.type "function") none (Data.func (FuncData.mk (ks "read_side") (ks "read_side") (defArgs (top 47)) (.stmts (defBody (top 47))) (defScope (top 47)) 3 [] .none .none .none (kvs "looseleavesdesk.reading" 391) none (.ref 318) .none 0)) #[]) ::
  (nat_lit 320, Obj.mk (.type "tuple") none (Data.seq #[]) #[]) ::
  (nat_lit 322, Obj.mk (.type "tuple") none (Data.seq #[kvs "text" 680, kvs "reader" 681, kvs "leaves" 682, kvs "findings" 683]) #[]) ::
  (nat_lit 323, Obj.mk (.type "tuple") none (Data.seq #[]) #[]) ::
  (nat_lit 325, Obj.mk (.type "code") none (Data.fields #[kvs "read_findings" 677, kvs "read_findings" 678, kvs "/claim/cut.py" 679, .int 169 0, .int 1 0, .int 0 0, .int 0 0, .int 3 0, .ref 320, .bool true, .int 181 0, .ref 321, .none, .ref 322, .ref 323, .ref 324, .int 684 0, .int 169 0, kvs "/claim/cut.py" 685]) #[]) ::
  (nat_lit 326, Obj.mk (.type "function") none (Data.func (FuncData.mk (ks "read_findings") (ks "read_findings") (defArgs (top 48)) (.stmts (defBody (top 48))) (defScope (top 48)) 3 [] .none .none .none (kvs "looseleavesdesk.reading" 391) none (.ref 325) .none 0)) #[]) ::
  (nat_lit 327, Obj.mk (.type "tuple") none (Data.seq #[]) #[]) ::
  (nat_lit 329, Obj.mk (.type "tuple") none (Data.seq #[kvs "reader" 690, kvs "leaves" 691, kvs "negated" 692, kvs "finding" 693]) #[]) ::
  (nat_lit 330, Obj.mk (.type "tuple") none (Data.seq #[]) #[]) ::
  (nat_lit 332, Obj.mk (.type "code") none (Data.fields #[kvs "read_finding" 687, kvs "read_finding" 688, kvs "/claim/cut.py" 689, .int 179 0, .int 2 0, .int 0 0, .int 0 0, .int 3 0, .ref 327, .bool true, .int 181 0, .ref 328, .none, .ref 329, .ref 330, .ref 331, .int 694 0, .int 179 0, kvs "/claim/cut.py" 695]) #[]) ::
  (nat_lit 333, Obj.mk (.type "function") none (Data.func (FuncData.mk (ks "read_finding") (ks "read_finding") (defArgs (top 49)) (.stmts (defBody (top 49))) (defScope (top 49)) 3 [] .none .none .none (kvs "looseleavesdesk.reading" 391) none (.ref 332) .none 0)) #[]) ::
  (nat_lit 334, Obj.mk (.type "tuple") none (Data.seq #[]) #[]) ::
  (nat_lit 336, Obj.mk (.type "tuple") none (Data.seq #[kvs "reader" 700, kvs "leaves" 701, kvs "negated" 702, kvs "sign" 703, kvs "fewest" 704, kvs "told" 705, kvs "start" 706, kvs "part" 707]) #[]) ::
  (nat_lit 337, Obj.mk (.type "tuple") none (Data.seq #[]) #[]) ::
  (nat_lit 339, Obj.mk (.type "code") none (Data.fields #[kvs "read_rising" 697, kvs "read_rising" 698, kvs "/claim/cut.py" 699, .int 190 0, .int 3 0, .int 0 0, .int 0 0, .int 3 0, .ref 334, .bool true, .int 181 0, .ref 335, .none, .ref 336, .ref 337, .ref 338, .int 708 0, .int 190 0, kvs "/claim/cut.py" 709]) #[]) ::
  (nat_lit 340, Obj.mk (.type "function") none (Data.func (FuncData.mk (ks "read_rising") (ks "read_rising") (defArgs (top 50)) (.stmts (defBody (top 50))) (defScope (top 50)) 3 [] .none .none .none (kvs "looseleavesdesk.reading" 391) none (.ref 339) .none 0)) #[]) ::
  (nat_lit 341, Obj.mk (.type "tuple") none (Data.seq #[]) #[]) ::
  (nat_lit 343, Obj.mk (.type "tuple") none (Data.seq #[kvs "reader" 714, kvs "leaves" 715, kvs "negated" 716, kvs "leaf" 717, kvs "side" 718]) #[]) ::
  (nat_lit 344, Obj.mk (.type "tuple") none (Data.seq #[]) #[]) ::
  (nat_lit 346, Obj.mk (.type "code") none (Data.fields #[kvs "read_related" 711, kvs "read_related" 712, kvs "/claim/cut.py" 713, .int 202 0, .int 3 0, .int 0 0, .int 0 0, .int 3 0, .ref 341, .bool true, .int 181 0, .ref 342, .none, .ref 343, .ref 344, .ref 345, .int 719 0, .int 202 0, kvs "/claim/cut.py" 720]) #[]) ::
  (nat_lit 347, Obj.mk (.type "function") none (Data.func (FuncData.mk (ks "read_related") (ks "read_related") (defArgs (top 51)) (.stmts (defBody (top 51))) (defScope (top 51)) 3 [] .none .none .none (kvs "looseleavesdesk.reading" 391) none (.ref 346) .none 0)) #[]) ::
  (nat_lit 348, Obj.mk (.type "tuple") none (Data.seq #[]) #[]) ::
  (nat_lit 350, Obj.mk (.type "tuple") none (Data.seq #[kvs "reader" 725, kvs "leaves" 726, kvs "negated" 727, kvs "leaf" 728, kvs "sign" 729, kvs "start" 730, kvs "other" 731]) #[]) ::
  (nat_lit 351, Obj.mk (.type "tuple") none (Data.seq #[]) #[]) ::
  (nat_lit 353, Obj.mk (.type "code") none (Data.fields #[kvs "read_behind_leaf" 722, kvs "read_behind_leaf" 723, kvs "/claim/cut.py" 724, .int 208 0, .int 4 0, .int 0 0, .int 0 0, .int 3 0, .ref 348, .bool true, .int 181 0, .ref 349, .none, .ref 350, .ref 351, .ref 352, .int 732 0, .int 208 0, kvs "/claim/cut.py" 733]) #[]) ::
  (nat_lit 354, Obj.mk (.type "function") none (Data.func (FuncData.mk (ks "read_behind_leaf") (ks "read_behind_leaf") (defArgs (top 52)) (.stmts (defBody (top 52))) (defScope (top 52)) 3 [] .none .none .none (kvs "looseleavesdesk.reading" 391) none (.ref 353) .none 0)) #[]) ::
  (nat_lit 355, Obj.mk (.type "tuple") none (Data.seq #[]) #[]) ::
  (nat_lit 357, Obj.mk (.type "tuple") none (Data.seq #[kvs "reader" 738, kvs "leaves" 739, kvs "negated" 740, kvs "side" 741, kvs "sign" 742, kvs "start" 743, kvs "other" 744]) #[]) ::
  (nat_lit 358, Obj.mk (.type "tuple") none (Data.seq #[]) #[]) ::
  (nat_lit 360, Obj.mk (.type "code") none (Data.fields #[kvs "read_behind_side" 735, kvs "read_behind_side" 736, kvs "/claim/cut.py" 737, .int 217 0, .int 4 0, .int 0 0, .int 0 0, .int 3 0, .ref 355, .bool true, .int 181 0, .ref 356, .none, .ref 357, .ref 358, .ref 359, .int 745 0, .int 217 0, kvs "/claim/cut.py" 746]) #[]) ::
  (nat_lit 361, Obj.mk (.type "function") none (Data.func (FuncData.mk (ks "read_behind_side") (ks "read_behind_side") (defArgs (top 53)) (.stmts (defBody (top 53))) (defScope (top 53)) 3 [] .none .none .none (kvs "looseleavesdesk.reading" 391) none (.ref 360) .none 0)) #[]) ::
  (nat_lit 362, Obj.mk (.type "tuple") none (Data.seq #[]) #[]) ::
  (nat_lit 364, Obj.mk (.type "tuple") none (Data.seq #[kvs "text" 751, kvs "leaves" 752, kvs "reader" 753, kvs "gatherings" 754, kvs "placed" 755, kvs "waiting" 756, kvs "leaf" 757]) #[]) ::
  (nat_lit 365, Obj.mk (.type "tuple") none (Data.seq #[]) #[]) ::
  (nat_lit 367, Obj.mk (.type "code") none (Data.fields #[kvs "read_book" 748, kvs "read_book" 749, kvs "/claim/cut.py" 750, .int 228 0, .int 2 0, .int 0 0, .int 0 0, .int 3 0, .ref 362, .bool true, .int 181 0, .ref 363, .none, .ref 364, .ref 365, .ref 366, .int 758 0, .int 228 0, kvs "/claim/cut.py" 759]) #[]) ::
  (nat_lit 368, Obj.mk (.type "function") none (Data.func (FuncData.mk (ks "read_book") (ks "read_book") (defArgs (top 54)) (.stmts (defBody (top 54))) (defScope (top 54)) 3 [] .none .none .none (kvs "looseleavesdesk.reading" 391) none (.ref 367) .none 0)) #[]) ::
  (nat_lit 369, Obj.mk (.type "tuple") none (Data.seq #[]) #[]) ::
  (nat_lit 371, Obj.mk (.type "tuple") none (Data.seq #[kvs "reader" 764, kvs "waiting" 765, kvs "blank" 766]) #[]) ::
  (nat_lit 372, Obj.mk (.type "tuple") none (Data.seq #[]) #[]) ::
  (nat_lit 374, Obj.mk (.type "code") none (Data.fields #[kvs "read_whether_gathering_ends" 761, kvs "read_whether_gathering_ends" 762, kvs "/claim/cut.py" 763, .int 246 0, .int 2 0, .int 0 0, .int 0 0, .int 3 0, .ref 369, .bool true, .int 181 0, .ref 370, .none, .ref 371, .ref 372, .ref 373, .int 767 0, .int 246 0, kvs "/claim/cut.py" 768]) #[]) ::
  (nat_lit 375, Obj.mk (.type "function") none (Data.func (FuncData.mk (ks "read_whether_gathering_ends") (ks "read_whether_gathering_ends") (defArgs (top 55)) (.stmts (defBody (top 55))) (defScope (top 55)) 3 [] .none .none .none (kvs "looseleavesdesk.reading" 391) none (.ref 374) .none 0)) #[]) ::
  (nat_lit 376, Obj.mk (.type "tuple") none (Data.seq #[]) #[]) ::
  (nat_lit 378, Obj.mk (.type "tuple") none (Data.seq #[kvs "reader" 773, kvs "leaves" 774, kvs "placed" 775, kvs "waiting" 776, kvs "start" 777, kvs "sign" 778, kvs "number" 779, kvs "letter" 780]) #[]) ::
  (nat_lit 379, Obj.mk (.type "tuple") none (Data.seq #[]) #[]) ::
  (nat_lit 381, Obj.mk (.type "code") none (Data.fields #[kvs "read_lying_leaf" 770, kvs "read_lying_leaf" 771, kvs "/claim/cut.py" 772, .int 256 0, .int 4 0, .int 0 0, .int 0 0, .int 3 0, .ref 376, .bool true, .int 181 0, .ref 377, .none, .ref 378, .ref 379, .ref 380, .int 781 0, .int 256 0, kvs "/claim/cut.py" 782]) #[]) ::
  (nat_lit 382, Obj.mk (.type "function") none (Data.func (FuncData.mk (ks "read_lying_leaf") (ks "read_lying_leaf") (defArgs (top 56)) (.stmts (defBody (top 56))) (defScope (top 56)) 3 [] .none .none .none (kvs "looseleavesdesk.reading" 391) none (.ref 381) .none 0)) #[]) ::
  (nat_lit 383, Obj.mk (.type "tuple") none (Data.seq #[]) #[]) ::
  (nat_lit 385, Obj.mk (.type "tuple") none (Data.seq #[kvs "t" 789, kvs "u" 790, kvs "case" 791, kvs "refusal" 792, kvs "in_order" 793]) #[]) ::
  (nat_lit 386, Obj.mk (.type "tuple") none (Data.seq #[]) #[]) ::
  (nat_lit 388, Obj.mk (.type "code") none (Data.fields #[kvs "sides" 786, kvs "sides" 787, kvs "/claim/cut.py" 788, .int 273 0, .int 2 0, .int 0 0, .int 0 0, .int 3 0, .ref 383, .bool true, .int 181 0, .ref 384, .none, .ref 385, .ref 386, .ref 387, .int 794 0, .int 273 0, kvs "/claim/cut.py" 795]) #[]) ::
  (nat_lit 389, Obj.mk (.type "function") none (Data.func (FuncData.mk (ks "sides") (ks "sides") (defArgs (top 58)) (.stmts (defBody (top 58))) (defScope (top 58)) 3 [] .none .none .none (kvs "looseleavesdesk.findings" 784) none (.ref 388) .none 0)) #[]) :: [] : List (Nat × Obj))
def kat : List Addr := [2, 3, 15, 17, 18, 20, 21, 29, 31, 32, 34, 35, 36, 38, 39, 41, 42, 43, 45, 46, 48, 49, 50, 51, 52, 53, 54, 57, 59, 60, 62, 63, 64, 66, 67, 69, 70, 71, 73, 74, 76, 77, 78, 80, 81, 83, 84, 92, 94, 95, 97, 98, 99, 100, 101, 102, 103, 113, 115, 116, 118, 119, 120, 121, 122, 123, 124, 127, 134, 136, 137, 139, 140, 141, 142, 143, 144, 147, 154, 156, 157, 159, 160, 161, 162, 163, 164, 167, 174, 176, 177, 179, 180, 181, 182, 183, 184, 194, 196, 197, 199, 200, 201, 202, 203, 204, 205, 215, 217, 218, 220, 221, 222, 223, 224, 225, 226, 229, 231, 232, 234, 235, 236, 238, 239, 241, 242, 250, 252, 253, 255, 256, 257, 259, 260, 262, 263, 264, 266, 267, 269, 270, 271, 273, 274, 276, 277, 278, 280, 281, 283, 284, 285, 287, 288, 290, 291, 292, 293, 294, 295, 296, 299, 301, 302, 304, 305, 306, 308, 309, 311, 312, 313, 315, 316, 318, 319, 320, 322, 323, 325, 326, 327, 329, 330, 332, 333, 334, 336, 337, 339, 340, 341, 343, 344, 346, 347, 348, 350, 351, 353, 354, 355, 357, 358, 360, 361, 362, 364, 365, 367, 368, 369, 371, 372, 374, 375, 376, 378, 379, 381, 382, 383, 385, 386, 388, 389]
noncomputable def hn11 : Obj := Obj.mk (Value.type "tuple") none (Data.seq #[]) #[]
noncomputable def hn12 : Obj := Obj.mk Value.none none (Data.fields #[]) #[]
noncomputable def hn13 : Obj := Obj.mk (Value.type "code") none (Data.fields #[Value.str (Str.ofString "<module>") 182, Value.str (Str.ofString "<module>") 183, Value.str (Str.ofString "/claim/cut.py") 184, Value.int 1 0, Value.int 0 0, Value.int 0 0, Value.int 0 0, Value.int 0 0, Value.ref 11, Value.bool false, Value.int 181 0, Value.ref 12, Value.none, Value.none, Value.none, Value.none, Value.int 185 0, Value.int 1 0, Value.str (Str.ofString "/claim/cut.py") 186]) #[]
noncomputable def hn14 : Obj := Obj.mk (Value.type "frame") none Data.plain #[some (Value.ref 13), some (Value.ref 3), some (Value.ref 3), none, some (Value.str (Str.ofString "__main__") 164), none, some (Value.ref 0)]
abbrev hpw : Program := PySem.Challenge.pw_looseleavesdesk_s06_sides
abbrev hps : Pos := ⟨0, 0, 0, 0⟩
noncomputable def hlife : Life := Life.mk [] [] [] 0 [] [] false #[] [] 0 false false false 0 [2000, 10, 10] false 0 true [] [] 0 false
noncomputable def hdrawn : Drawn := Drawn.mk 0 0 0 0
noncomputable def hE : Env := { scope := hpw.main.scope, locals := mainNs, globals := mainNs, cells := [], code := .ref 13, frame := some 14 }
noncomputable def hC : Code := .body (behindTheImports hpw) hE
noncomputable def hObs (P : Params) : List Obj := [boot_o_0 P, boot_o_1 P, boot_o_2 P, boot_o_3 P, boot_o_4 P, boot_o_5 P, boot_o_6 P, boot_o_7 P, boot_o_8 P, boot_o_9 P, boot_o_10 P, hn11, hn12, hn13, hn14]
noncomputable def hTr (P : Params) : BT := .node (boot_o_0 P) (.node (boot_o_1 P) (.node (boot_o_3 P) (.node (boot_o_7 P) (.nil) (.nil)) (.node (hn11) (.nil) (.nil))) (.node (boot_o_5 P) (.node (boot_o_9 P) (.nil) (.nil)) (.node (hn13) (.nil) (.nil)))) (.node (boot_o_2 P) (.node (boot_o_4 P) (.node (boot_o_8 P) (.nil) (.nil)) (.node (hn12) (.nil) (.nil))) (.node (boot_o_6 P) (.node (boot_o_10 P) (.nil) (.nil)) (.node (hn14) (.nil) (.nil))))
noncomputable def hSa (w : World) (os : OsState) : Shared := ⟨⟨⟨hObs w.params⟩, hlife⟩, Array.mk [], hdrawn, 187, os⟩
noncomputable def hSb (w : World) (os : OsState) : SharedT := ⟨hTr w.params, 15, hlife, Array.mk [], hdrawn, 187, os⟩
noncomputable def hq : Program := PySem.W.view hpw [0, 1, 2, 3, 4, 5, 6, 7, 8, 9, 10, 11, 12, 13, 14, 15, 16, 17, 18, 20, 21, 22, 23, 24, 26, 27, 29, 30, 31, 32, 33, 34, 35, 36, 37, 38, 39, 40, 41, 42, 43, 44, 45, 46, 47, 48, 49, 50, 51, 52, 53, 54, 55, 56, 58]
noncomputable def hXt (s : Shared) : Bool := xlAt hq [] s && recOk [] s
noncomputable def szL (w : World) : Bool × Nat × Option Value := ((boot_heap w.params).isNs mainGlobals, (boot_heap w.params).objs.size, (boot_heap w.params).nsMap mainGlobals "__annotations__")
noncomputable def preL (w : World) (os : OsState) : Option (Shared × Thread) := topGo treeTable hpw w 11 (some (.ref 6)) 12 ⟨boot_heap w.params, Array.mk [], boot_drawn, boot_toks, os⟩ (topStub hpw)
noncomputable def preR (w : World) (os : OsState) : Option (Shared × Thread) := some (hSa w os, ⟨denote treeTable (.body (behindTheImports hpw) hE), hC, hps, [topFrame hps]⟩)
noncomputable def blkL (w : World) (os : OsState) : Option (Flow × Shared × Code × Pos) := segRun treeTable hpw w 11 (some (.ref 6)) 1 1 (hSa w os) (blockOf (behindTheImports hpw) hE hC hps [topFrame hps])
noncomputable def blkR (w : World) (os : OsState) : Option (Flow × Shared × Code × Pos) := some (.next, (hSb w os).abs, hC, hps)
noncomputable def runL (w : World) (os : OsState) := (segRunT treeTable hpw w 11 (some (.ref 6)) 1 3200 (hSb w os) (piecesOf (behindTheImports hpw) hE hC hps [topFrame hps])).bind fun r => (topRun treeTable hpw w 11 (some (.ref 6)) 2 r.2.1.abs ⟨doneF .next, hC, r.2.2.2, [topFrame hps]⟩).map fun s => (r.1, r.2.2.1, ((staticsOk (importedModules hpw.main.body) (boot_heap w.params) s.heap && namesBound hpw s.heap && gensDone s && laidKept (boot_heap w.params) s.heap), seen ((recsOf hq).map (·.name)) (ownsOf hq) [] { s with gens := #[] }, kat.map s.heap.get?))
noncomputable def runM (w : World) (os : OsState) := (segRunT treeTable hpw w 11 (some (.ref 6)) 1 3200 (hSb w os) (piecesOf (behindTheImports hpw) hE hC hps [topFrame hps])).bind fun r => (topRun treeTable hpw w 11 (some (.ref 6)) 2 r.2.1.abs ⟨doneF .next, hC, r.2.2.2, [topFrame hps]⟩).map fun s => (r.1, r.2.2.1, (s.heap.bltView, (s.heap.keysOk (looseW hq []) ((recsOf hq).map (·.name)) ((litsOf hq).map (·.1)) ((clssOf hq (looseW hq [])).map (·.name)) && s.heap.accountedOkI (importedModules hpw.main.body) && s.heap.isNs mainGlobals && s.heap.isNs builtinsNs && tablesOk hq s.heap && hXt s && (s.gens.size == 0))))
noncomputable def runH (w : World) (os : OsState) := (segRunT treeTable hpw w 11 (some (.ref 6)) 1 3200 (hSb w os) (piecesOf (behindTheImports hpw) hE hC hps [topFrame hps])).bind fun r => (topRun treeTable hpw w 11 (some (.ref 6)) 2 r.2.1.abs ⟨doneF .next, hC, r.2.2.2, [topFrame hps]⟩).map fun s => (r.1, r.2.2.1, (tabsOk hq s, pinSeenD hq (drecsOf hq) s, plainSeenE hq (looseW hq []) s, plainSeenD hq [] s, wideSeen hq s, clsSeenW hq [] s))
noncomputable def runG := (Flow.next, hC, true, expectedOf hq)
noncomputable def gdM := (Flow.next, hC, (bltViewBooted, true))
noncomputable def gdH := (Flow.next, hC, (true, pinGoodD (drecsOf hq), plainGoodE hq (looseW hq []), plainGoodD hq [], wideGood hq, clsGoodW hq []))
theorem yes_szL : yes szL = true := by k_qdec
theorem yes_preL : yes preL = true := by k_qdec
theorem yes_preR : yes preR = true := by k_qdec
theorem yes_blkL : yes blkL = true := by k_qdec
theorem yes_blkR : yes blkR = true := by k_qdec
theorem yes_runL : yes runL = true := by k_qdec
theorem yes_runG : yes runG = true := by k_qdec
theorem yes_runM : yes runM = true := by k_qdec
theorem yes_gdM : yes gdM = true := by k_qdec
theorem yes_runH : yes runH = true := by k_qdec
theorem yes_gdH : yes gdH = true := by k_qdec
theorem sz_eq (w : World) : szL w = (true, 11, some (.ref 6)) := by
  rw [PySem.W.Fast.te7507389486288720237]
  kernel_rfl
theorem pre_eq (w : World) : preL w = preR w := by
  rw [PySem.W.Fast.te1580251039116661966, PySem.W.Fast.te2352136093117274987]
  kernel_rfl
theorem blk_eq (w : World) : blkL w = blkR w := by
  rw [PySem.W.Fast.te6291438888359911060, PySem.W.Fast.te6167459552674105310]
  kernel_rfl
theorem run_eq (w : World) : runL w = fun _ => some (runG.1, runG.2.1, (runG.2.2.1, runG.2.2.2, (kpart w.params).map fun p => some p.2)) := by
  rw [PySem.W.Fast.te15078748721596293071, PySem.W.Fast.te5531949407486669036]
  kernel_rfl
theorem run_eqM (w : World) : runM w = fun _ => some (gdM.1, gdM.2.1, gdM.2.2) := by
  rw [PySem.W.Fast.te4766830536711210865, PySem.W.Fast.te627541023968946495]
  kernel_rfl
theorem run_eqH (w : World) : runH w = fun _ => some (gdH.1, gdH.2.1, gdH.2.2) := by
  rw [PySem.W.Fast.te16658858607530123872, PySem.W.Fast.te10080669959339356142]
  kernel_rfl
def defPos (s : Stmt) : Pos := match s with
  | .FunctionDef _ _ _ _ _ _ _ _ _ p => p
  | _ => hps
theorem hXt_of {s : Shared} (e : hXt s = true) : xlAt hq [] s = true ∧ recOk [] s = true := Bool.and_eq_true_iff.mp e
theorem kat_eq (P : Params) : kat = (kpart P).map (·.1) := by kernel_rfl
theorem hleft : LeftO hpw hq [] hXt (fun s => kat.map s.heap.get?) (fun w => (kpart w.params).map fun p => some p.2) 6524 := by
  refine left_by (M := 12 + (1 + (3200 + 2))) (m := 11) (ann := some (.ref 6)) (boot_open (by kernel_rfl) (by kernel_rfl) (fun s => by kernel_rfl)) sz_eq (fun w os => ?_) (by kernel_rfl)
  have hL := fun u => top_by (φ := fun s => ((staticsOk (importedModules hpw.main.body) (boot_heap w.params) s.heap && namesBound hpw s.heap && gensDone s && laidKept (boot_heap w.params) s.heap), seen ((recsOf hq).map (·.name)) (ownsOf hq) [] { s with gens := #[] }, kat.map s.heap.get?)) (u := u) (n := 3200) (N := 2) (congrFun (pre_eq w) os) (congrFun (blk_eq w) os)
  obtain ⟨s, g1, g2⟩ := hL _ (congrFun (run_eq w) os) rfl rfl
  have hM := fun u => top_by (φ := fun s => (s.heap.bltView, (s.heap.keysOk (looseW hq []) ((recsOf hq).map (·.name)) ((litsOf hq).map (·.1)) ((clssOf hq (looseW hq [])).map (·.name)) && s.heap.accountedOkI (importedModules hpw.main.body) && s.heap.isNs mainGlobals && s.heap.isNs builtinsNs && tablesOk hq s.heap && hXt s && (s.gens.size == 0)))) (u := u) (n := 3200) (N := 2) (congrFun (pre_eq w) os) (congrFun (blk_eq w) os)
  obtain ⟨s', m1, m2⟩ := hM _ (congrFun (run_eqM w) os) rfl rfl
  have hH := fun u => top_by (φ := fun s => (tabsOk hq s, pinSeenD hq (drecsOf hq) s, plainSeenE hq (looseW hq []) s, plainSeenD hq [] s, wideSeen hq s, clsSeenW hq [] s)) (u := u) (n := 3200) (N := 2) (congrFun (pre_eq w) os) (congrFun (blk_eq w) os)
  obtain ⟨s'', n1, n2⟩ := hH _ (congrFun (run_eqH w) os) rfl rfl
  have em := run_one g1 m1
  have en := run_one g1 n1
  subst em en
  injection g2 with g2 g3
  injection g3 with g3 g4
  exact ⟨_, g1, g2, seen_by g3 (congrArg Prod.fst m2) (congrArg Prod.snd m2) n2, g4⟩
end Desk
end
section
set_option Elab.async false
set_option linter.all false
set_option maxRecDepth 100000
namespace Desk
open PySem PySem.Spec PyProof.Rows L2
open Quire (Bytes)
open QuireSeen (Rd number)
/-- a constant of the text -/
def Con0 (mg : Str → Option Value) (x : Str) (n : Int) : Prop := ∃ t, mg x = some (.int n t)
structure Txt (K : PySem.W.Frag) (mg : Str → Option Value) (c : Cs) : Prop where
  clR : Cls K c.R
  nT : NoAttr K c.R "text"
  nO : NoAttr K c.R "of_book"
  nP : NoAttr K c.R "place"
  xF : XCls K c.F "answer"
  xB : XCls K c.B "answer"
  xL : XCls K c.L "answer"
  clF : Cls K c.Fi
  nNg : NoAttr K c.Fi "negated"
  nSg : NoAttr K c.Fi "sign"
  nTo : NoAttr K c.Fi "told"
  clS : Cls K c.S
  nLv : NoAttr K c.S "leaves"
  nFs : NoAttr K c.S "findings"
  mgL : mg "TooLong" = some (.ref c.L)
  mgS : mg "Seen" = some (.ref c.S)
  mgFi : mg "Finding" = some (.ref c.Fi)
  mgR : mg "Reader" = some (.ref c.R)
  mgF : mg "FindingsFault" = some (.ref c.F)
  mgB : mg "BookFault" = some (.ref c.B)
  nolen : mg "len" = none
  notup : mg "tuple" = none
  cEND : Con0 mg "END" (-1)
  cZERO : Con0 mg "ZERO" 48
  cNINE : Con0 mg "NINE" 57
  cDIG : Con0 mg "MOST_DIGITS" 3
  cBLANK : Con0 mg "BLANK" 32
  cLF : Con0 mg "LINE_FEED" 10
  cBANG : Con0 mg "BANG" 33
  cLESS : Con0 mg "LESS" 60
  cEQ : Con0 mg "EQUAL" 61
  cGT : Con0 mg "GREATER" 62
  cCARET : Con0 mg "CARET" 94
  cA : Con0 mg "LETTER_A" 97
  cB : Con0 mg "LETTER_B" 98
  cH : Con0 mg "LETTER_H" 104
  cO : Con0 mg "LETTER_O" 111
  cBAR : Con0 mg "BAR" 124
  cTILDE : Con0 mg "TILDE" 126
  cLEAVES : Con0 mg "MOST_LEAVES" 16
  cFINDINGS : Con0 mg "MOST_FINDINGS" 64
  cBYTES : Con0 mg "MOST_BYTES" 8192
  cTL : Con0 mg "TOO_LONG" (-2)
  cBF : Con0 mg "BOOK_AT_FAULT" (-3)
  cFF : Con0 mg "FINDINGS_AT_FAULT" (-6)
theorem pe_con0 {X : Cx} {x : Str} {n : Int} {pos : Pos} (hc : Con0 X.mg x n) (hg : Gl X x := by rfl) (hd : (x == ("__debug__" : Str)) = false := by decide) : PE X (.Name x pos) (tC (.int n)) := by
  obtain ⟨t, e⟩ := hc
  exact pe_glob hg e ⟨t, rfl⟩ hd
section
variable {P : Program} {w : World} {K : PySem.W.Frag} {mg : Str → Option Value} {base : Heap} {c : Cs}
theorem laid_ans {a dx l C : Addr} {H : Hp} {xs : List Int} {Q : VK} (ha : H a = some (xo a C none)) (hl : H l = none) (n1 : upd H l (.lst (xs.map V.int)) dx = none) (n2 : dx ≠ a)
    (k : ∀ dx H', Ans H' dx xs → H' a = some (xo a C (some dx)) → Keep a H H' → Q .non H') : Q .non (upd (upd (upd H l (.lst (xs.map V.int))) dx (.xd [("answer", .ref l)])) a (xo a C (some dx))) := by
  have na : l ≠ a := Ne.symm (ne_of_none ha hl)
  have nl : l ≠ dx := fun z => by
    rw [← z, upd_same] at n1
    cases n1
  refine k dx _ ⟨l, ?_, ?_⟩ upd_same fun x o q n => ?_
  · rw [upd_ne n2, upd_same]
  · rw [upd_ne na, upd_ne nl, upd_same]
  · have z1 : x ≠ l := ne_of_none q hl
    have z2 : x ≠ dx := fun z => by
      rw [← z, upd_ne z1, q] at n1
      cases n1
    rw [upd_ne n, upd_ne z2, upd_ne z1]
    exact q
theorem scXF : FnScope ["self", "place"] ["self", "place"] (defScope sFFInit) := ⟨rfl, rfl, rfl, by decide +kernel, rfl, by decide +kernel, by decide +kernel⟩
theorem ok_ffinit {f : Addr} {fd : FuncData} (F : Fun K "__init__" "FindingsFault.__init__" sFFInit f fd) (T : Txt K mg c) : FnOk P w K mg base (CXx P w) 1 f fd ["self", "place"] (spXInit c.F (-6)) := by
  refine F.okx scXF (fun vs H Q E h => ?_) (fun cdv A outer s H vs Q E hr h => ?_)
  · obtain ⟨a, e, rfl, _⟩ := h
    rfl
  · obtain ⟨a, e, rfl, ha, k⟩ := h
    refine ⟨_, pss_one (ps_xfld (pv 0) (pe_lst (pa_cons (pe_con0 T.cFF) (pa_cons (pv 1) pa_nil))) rfl), ?_⟩
    exact ⟨_, rfl, by show 2 ≤ sizeLine; decide, fun l hl => ⟨_, rfl, a, c.F, rfl, (upd_ne (ne_of_none ha hl)).trans ha, T.xF, fun dx n1 n2 => laid_ans (xs := [-6, e]) ha hl n1 n2 k⟩⟩
theorem scXB : FnScope ["self", "place"] ["self", "place"] (defScope sBFInit) := ⟨rfl, rfl, rfl, by decide +kernel, rfl, by decide +kernel, by decide +kernel⟩
theorem ok_bfinit {f : Addr} {fd : FuncData} (F : Fun K "__init__" "BookFault.__init__" sBFInit f fd) (T : Txt K mg c) : FnOk P w K mg base (CXx P w) 1 f fd ["self", "place"] (spXInit c.B (-3)) := by
  refine F.okx scXB (fun vs H Q E h => ?_) (fun cdv A outer s H vs Q E hr h => ?_)
  · obtain ⟨a, e, rfl, _⟩ := h
    rfl
  · obtain ⟨a, e, rfl, ha, k⟩ := h
    refine ⟨_, pss_one (ps_xfld (pv 0) (pe_lst (pa_cons (pe_con0 T.cBF) (pa_cons (pv 1) pa_nil))) rfl), ?_⟩
    exact ⟨_, rfl, by show 2 ≤ sizeLine; decide, fun l hl => ⟨_, rfl, a, c.B, rfl, (upd_ne (ne_of_none ha hl)).trans ha, T.xB, fun dx n1 n2 => laid_ans (xs := [-3, e]) ha hl n1 n2 k⟩⟩
theorem scXL : FnScope ["self"] ["self"] (defScope sTLInit) := ⟨rfl, rfl, rfl, by decide +kernel, rfl, by decide +kernel, by decide +kernel⟩
theorem ok_tlinit {f : Addr} {fd : FuncData} (F : Fun K "__init__" "TooLong.__init__" sTLInit f fd) (T : Txt K mg c) : FnOk P w K mg base (CXx P w) 1 f fd ["self"] (spTInit c.L (-2)) := by
  refine F.okx scXL (fun vs H Q E h => ?_) (fun cdv A outer s H vs Q E hr h => ?_)
  · obtain ⟨a, rfl, _⟩ := h
    rfl
  · obtain ⟨a, rfl, ha, k⟩ := h
    refine ⟨_, pss_one (ps_xfld (pv 0) (pe_lst (pa_cons (pe_con0 T.cTL) pa_nil)) rfl), ?_⟩
    exact ⟨by show 1 ≤ sizeLine; decide, fun l hl => ⟨_, rfl, a, c.L, rfl, (upd_ne (ne_of_none ha hl)).trans ha, T.xL, fun dx n1 n2 => laid_ans (xs := [-2]) ha hl n1 n2 k⟩⟩
theorem scRI : FnScope ["self", "text", "of_book"] ["self", "text", "of_book"] (defScope sRInit) := ⟨rfl, rfl, rfl, by decide +kernel, rfl, by decide +kernel, by decide +kernel⟩
theorem ok_rinit {f : Addr} {fd : FuncData} (F : Fun K "__init__" "Reader.__init__" sRInit f fd) (T : Txt K mg c) : FnOk P w K mg base (CXx P w) 1 f fd ["self", "text", "of_book"] (spRInit c.R) := by
  refine F.okx scRI (fun vs H Q E h => ?_) (fun cdv A outer s H vs Q E hr h => ?_)
  · obtain ⟨r, dx, a, b, rfl, _⟩ := h
    rfl
  · obtain ⟨r, dx, a, b, rfl, ho, k⟩ := h
    refine ⟨_, pss_cons (ps_fld (pv 0) (pv 1) rfl) (pss_cons (ps_fld (pv 0) (pv 2) rfl) (pss_one (ps_fld (pv 0) pe_int rfl))), ?_⟩
    refine ⟨_, rfl, _, rfl, r, c.R, dx, _, rfl, ho, T.clR, T.nT, (by show 0 < 1000; decide), ?_⟩
    refine ⟨_, rfl, _, rfl, r, c.R, dx, _, rfl, upd_same, T.clR, T.nO, (by show 1 < 1000; decide), ?_⟩
    refine ⟨_, rfl, r, c.R, dx, _, rfl, upd_same, T.clR, T.nP, Nat.lt_of_le_of_lt (Nat.le_trans (length_putF _ _ _) (Nat.add_le_add_right (length_putF _ _ _) 1)) (by decide), ?_⟩
    refine k _ (upd_same.trans ?_) fun x o h n => by rw [upd_ne n, upd_ne n, upd_ne n]; exact h
    exact congrArg (fun q => some (HO.ins c.R dx q)) (rf_make a b)
theorem scFl : FnScope ["self", "place"] ["self", "place"] (defScope sFail) := ⟨rfl, rfl, rfl, by decide +kernel, rfl, by decide +kernel, by decide +kernel⟩
/-- what raising does -/
theorem untr_ans {ea : Addr} {H' : Hp} {dx : Addr} {zs : List Int} {C : Addr} {d : Option Addr} (h : Ans H' dx zs) (he : H' ea = some (xo ea C d)) : Ans (untr H' ea) dx zs := by
  obtain ⟨l, h1, h2⟩ := h
  exact ⟨l, by rw [untr_ne (ne_of h1 he (by intro z; cases z))]; exact h1, by rw [untr_ne (ne_of h2 he (by intro z; cases z))]; exact h2⟩
theorem untr_same2 {ea : Addr} {H H' : Hp} {o : HO} (n : H ea = none) (k : Keep ea (upd H ea o) H') : Same H (untr H' ea) := fun x u q => by
  have z : x ≠ ea := ne_of_none q n
  rw [untr_ne z]
  exact k x u (by rw [upd_ne z]; exact q) z
theorem raised {C : Addr} {H : Hp} {E : XK} {e cd : Int} (h : ∀ dy H', Ans H' dy [cd, e] → Same H H' → E (.ref C) (some dy) H') :
    ∀ ea, H ea = none → spXInit C cd [.ref ea, .int e] (upd H ea (xo ea C none)) (fun v H2 => v = .non ∧ ∃ dx, H2 ea = some (xo ea C (some dx)) ∧ E (.ref C) (some dx) (untr H2 ea)) E0 := fun ea n =>
  ⟨ea, e, rfl, upd_same, fun dx H' h1 h2 h3 => ⟨rfl, dx, h2, h dx _ (untr_ans h1 h2) (untr_same2 n h3)⟩⟩
theorem raised0 {C : Addr} {H : Hp} {E : XK} {cd : Int} (h : ∀ dy H', Ans H' dy [cd] → Same H H' → E (.ref C) (some dy) H') :
    ∀ ea, H ea = none → spTInit C cd [.ref ea] (upd H ea (xo ea C none)) (fun v H2 => v = .non ∧ ∃ dx, H2 ea = some (xo ea C (some dx)) ∧ E (.ref C) (some dx) (untr H2 ea)) E0 := fun ea n =>
  ⟨ea, rfl, upd_same, fun dx H' h1 h2 h3 => ⟨rfl, dx, h2, h dx _ (untr_ans h1 h2) (untr_same2 n h3)⟩⟩
theorem ok_fail {f fF fB : Addr} {fd fdF fdB : FuncData} (F : Fun K "fail" "Reader.fail" sFail f fd) (T : Txt K mg c) (MF : XMk K c.F fF) (MB : XMk K c.B fB)
    (GF : FnOk P w K mg base (CXx P w) 1 fF fdF ["self", "place"] (spXInit c.F (-6))) (GB : FnOk P w K mg base (CXx P w) 1 fB fdB ["self", "place"] (spXInit c.B (-3))) (bF : Binds K fdF ["self", "place"] []) (bB : Binds K fdB ["self", "place"] []) :
    FnOk P w K mg base (CXx P w) 3 f fd ["self", "place"] (spFail c) := by
  refine F.okx scFl (fun vs H Q E h => ?_) (fun cdv A outer s H vs Q E hr h => ?_)
  · obtain ⟨r, dx, a, b, p, e, rfl, _⟩ := h
    rfl
  · obtain ⟨r, dx, a, b, p, e, rfl, ho, k⟩ := h
    refine ⟨_, pss_cons (ps_if (pt_val (pe_fld (pv 0) rfl)) (pss_one (ps_raise MB GB hr rfl T.mgB bB (pa_cons (pv 1) pa_nil))) pss_nil) (pss_one (ps_raise MF GF hr rfl T.mgF bF (pa_cons (pv 1) pa_nil))), ?_⟩
    refine ⟨_, rfl, r, c.R, dx, _, _, rfl, ho, T.clR, T.nO, rf_of a b p, b, rfl, ?_⟩
    cases b with
    | true =>
      rw [if_pos rfl]
      exact ⟨_, rfl, by show 1 ≤ 1000; decide, raised k⟩
    | false =>
      rw [if_neg Bool.false_ne_true]
      exact ⟨_, rfl, by show 1 ≤ 1000; decide, raised k⟩
theorem scBy : FnScope ["self"] ["self"] (defScope sByte) := ⟨rfl, rfl, rfl, by decide +kernel, rfl, by decide +kernel, by decide +kernel⟩
theorem tx_at {bs : Bytes} {p : Nat} {c : UInt8} (h : bs[p]? = some c) : (tx bs)[p]? = some (.int (c.toNat : Int)) := by
  unfold tx
  rw [List.getElem?_map, h]
  rfl
theorem tx_len (bs : Bytes) : (tx bs).length = bs.length := by unfold tx; rw [List.length_map]
theorem ok_byte {f : Addr} {fd : FuncData} {bs : Bytes} (F : Fun K "byte" "Reader.byte" sByte f fd) (T : Txt K mg c) : FnOk P w K mg base (CXx P w) 1 f fd ["self"] (spByte K c bs) := by
  refine F.okx scBy (fun vs H Q E h => ?_) (fun cdv A outer s H vs Q E hr h => ?_)
  · obtain ⟨r, a, b, p, rfl, _⟩ := h
    rfl
  · obtain ⟨r, a, b, p, rfl, ⟨⟨dx, ho⟩, ht, hle, hsz⟩, k⟩ := h
    refine ⟨_, pss_cons (ps_if (pt_cmpR op_lt (pe_fld (pv 0) rfl) (pe_callB call_len_seq (by rfl) T.nolen PySem.boot_len (pa_cons (pe_fld (pv 0) rfl) pa_nil)) (nomark _))
      (pss_one (ps_ret (pe_ix ix_list (pe_fld (pv 0) rfl) (pe_fld (pv 0) rfl) (fun _ _ => rfl)))) pss_nil) (pss_one (ps_ret (pe_con0 T.cEND))), ?_⟩
    refine ⟨_, rfl, r, c.R, dx, _, _, rfl, ho, T.clR, T.nP, rf_place a b p, _, rfl, r, c.R, dx, _, _, rfl, ho, T.clR, T.nT, rf_text a b p, a, _, rfl, .inl ht, _, _, rfl, rfl, _, rfl, ?_⟩
    rw [tx_len]
    refine ite2 (fun hlt => ?_) fun hge => ?_
    · have hp : p < bs.length := by have := of_decide_eq_true hlt; omega
      obtain ⟨cc, hc⟩ : ∃ cc, bs[p]? = some cc := ⟨_, List.getElem?_eq_getElem hp⟩
      refine ⟨_, rfl, r, c.R, dx, _, _, rfl, ho, T.clR, T.nT, rf_text a b p, _, rfl, r, c.R, dx, _, _, rfl, ho, T.clR, T.nP, rf_place a b p, a, _, _, _, rfl, rfl, ht, atI_nat (tx_at hc), ?_⟩
      rw [byteAt_some hc] at k
      exact k
    · have hp : bs[p]? = none := List.getElem?_eq_none_iff.mpr (by have := of_decide_eq_false (Bool.eq_false_iff.mpr hge); omega)
      rw [byteAt_none hp] at k
      exact k
theorem scSt : FnScope ["self"] ["self"] (defScope sStep) := ⟨rfl, rfl, rfl, by decide +kernel, rfl, by decide +kernel, by decide +kernel⟩
theorem ok_step {f : Addr} {fd : FuncData} (F : Fun K "step" "Reader.step" sStep f fd) (T : Txt K mg c) : FnOk P w K mg base (CXx P w) 1 f fd ["self"] (spStep c) := by
  refine F.okx scSt (fun vs H Q E h => ?_) (fun cdv A outer s H vs Q E hr h => ?_)
  · obtain ⟨r, dx, a, b, p, rfl, _⟩ := h
    rfl
  · obtain ⟨r, dx, a, b, p, rfl, ho, k⟩ := h
    refine ⟨_, pss_one (ps_fldaug (pv 0) pe_int in_add), ?_⟩
    refine ⟨_, rfl, r, c.R, dx, _, _, rfl, ho, T.clR, T.nP, rf_place a b p, _, _, rfl, rfl, dx, _, ho, (by show 3 < 1000; decide), ?_⟩
    have e : putF "place" (.int ((p : Int) + 1)) (rf a b p) = rf a b (p + 1) := rf_put a b p (p + 1)
    show Q .non (upd H r (.ins c.R dx (putF "place" (.int ((p : Int) + 1)) (rf a b p))))
    rw [e]
    exact k
end
end Desk
end
section
set_option Elab.async false
set_option linter.all false
set_option maxRecDepth 100000
namespace Desk
open PySem PySem.Spec PyProof.Rows L2
open Quire (Bytes)
open QuireSeen (Rd number)
theorem flat_ints (cs : List Nat) : (cs.map fun n : Nat => V.int (n : Int)).all flatV = true := by
  rw [List.all_map, List.all_eq_true]
  intro x _
  rfl
theorem inV_ints (z : Int) (cs : List Nat) : inV (.int z) (cs.map fun n : Nat => V.int (n : Int)) = decide (∃ n ∈ cs, (n : Int) = z) := by
  unfold inV
  rw [List.any_map, Bool.eq_iff_iff, List.any_eq_true, decide_eq_true_iff]
  constructor
  · rintro ⟨n, hn, h⟩
    exact ⟨n, hn, by simpa [eqV] using h⟩
  · rintro ⟨n, hn, h⟩
    exact ⟨n, hn, by simpa [eqV] using h⟩
theorem need_at {bs : Bytes} {cs : List Nat} {p : Nat} : needAt cs p (bs.drop p) = match bs[p]? with | some c => if c.toNat ∈ cs then .ok (c, p + 1, bs.drop (p + 1)) else .error p | none => .error p := by
  cases h : bs[p]? with
  | none => rw [drop_nil h]; rfl
  | some c => rw [drop_cons h]; rfl
/-- a fault: what fail's promise asks -/
theorem RR.fail {α : Type} {K : PySem.W.Frag} {c : Cs} {bs : Bytes} {r a : Addr} {b : Bool} {rep : α → V → Hp → Prop} {H : Hp} {Q : VK} {E : XK} {e : Nat} (h : RR K c bs r a b rep (.error e) H Q E) :
    ∀ dy H', Ans H' dy [code b, (e : Int)] → Same H H' → E (.ref (c.X b)) (some dy) H' := fun dy H' h1 h2 => h dy H' h1 (.same h2)
section
variable {P : Program} {w : World} {K : PySem.W.Frag} {mg : Str → Option Value} {base : Heap} {c : Cs} {bs : Bytes}
/-- the reader's small methods, as they stand behind the top -/
structure Small (P : Program) (w : World) (K : PySem.W.Frag) (mg : Str → Option Value) (base : Heap) (c : Cs) (bs : Bytes) (fB fS fF : Addr) (dB dS dF : FuncData) : Prop where
  gB : FnOk P w K mg base (CXx P w) 1 fB dB ["self"] (spByte K c bs)
  gS : FnOk P w K mg base (CXx P w) 1 fS dS ["self"] (spStep c)
  gF : FnOk P w K mg base (CXx P w) 3 fF dF ["self", "place"] (spFail c)
  bB : Binds K dB ["self"] []
  bS : Binds K dS ["self"] []
  bF : Binds K dF ["self", "place"] []
  mB : Meth K c.R "byte" fB
  mS : Meth K c.R "step" fS
  mF : Meth K c.R "fail" fF
theorem rf_byte (a : Addr) (b : Bool) (p : Nat) : (rf a b p).lookup ("byte" : Str) = none := rf_no a b p (by decide +kernel) (by decide +kernel) (by decide +kernel)
theorem rf_step (a : Addr) (b : Bool) (p : Nat) : (rf a b p).lookup ("step" : Str) = none := rf_no a b p (by decide +kernel) (by decide +kernel) (by decide +kernel)
theorem rf_fail (a : Addr) (b : Bool) (p : Nat) : (rf a b p).lookup ("fail" : Str) = none := rf_no a b p (by decide +kernel) (by decide +kernel) (by decide +kernel)
theorem rf_need (a : Addr) (b : Bool) (p : Nat) : (rf a b p).lookup ("need" : Str) = none := rf_no a b p (by decide +kernel) (by decide +kernel) (by decide +kernel)
theorem rf_number (a : Addr) (b : Bool) (p : Nat) : (rf a b p).lookup ("take_number" : Str) = none := rf_no a b p (by decide +kernel) (by decide +kernel) (by decide +kernel)
section
variable {H : Hp} {r a : Addr} {b : Bool} {p : Nat} {σ : L2.St} {i : Nat} {E : XK}
theorem val_place (T : Txt K mg c) (x : RS K c bs H r a b p) (hi : σ[i]? = some (some (.ref r))) : Val (tFld K (tVar i) "place") σ H (.int (p : Int)) :=
  let ⟨_, ho⟩ := x.obj; val_fld (val_var hi) ho T.clR T.nP (rf_place a b p)
theorem val_byte (x : RS K c bs H r a b p) (hi : σ[i]? = some (some (.ref r))) : Val (tMeth c.R "byte" (spByte K c bs) [] E (tVar i) tNil) σ H (.int (byteAt bs p)) :=
  let ⟨_, ho⟩ := x.obj; val_meth (val_var hi) ho (rf_byte a b p) vls_nil fun _ q => ⟨r, a, b, p, rfl, x, q⟩
theorem to_fail {α : Type} {rep : α → V → Hp → Prop} {Q : VK} {D : Ends} {te : TE} {e : Nat} (x : RS K c bs H r a b p) (hi : σ[i]? = some (some (.ref r))) (he : Val te σ H (.int (e : Int))) (k : RR K c bs r a b rep (.error e) H Q E) :
    tDrop (tMeth c.R "fail" (spFail c) [] E (tVar i) (tCons te tNil)) D σ H :=
  let ⟨dx, ho⟩ := x.obj; to_meth (val_var hi) ho (rf_fail a b p) (vls_cons he vls_nil) ⟨r, dx, a, b, p, (e : Int), rfl, ho, k.fail⟩
theorem to_step {D : Ends} (x : RS K c bs H r a b p) (hi : σ[i]? = some (some (.ref r))) (k : ∀ dx, H r = some (.ins c.R dx (rf a b p)) → D.nx σ (upd H r (.ins c.R dx (rf a b (p + 1))))) :
    tDrop (tMeth c.R "step" (spStep c) [] E (tVar i) tNil) D σ H :=
  let ⟨dx, ho⟩ := x.obj; to_meth (val_var hi) ho (rf_step a b p) vls_nil ⟨r, dx, a, b, p, rfl, ho, k dx ho⟩
end
theorem RS.step {H : Hp} {r a dx : Addr} {b : Bool} {p : Nat} {cc : UInt8} (x : RS K c bs H r a b p) (h : bs[p]? = some cc) : RS K c bs (upd H r (.ins c.R dx (rf a b (p + 1)))) r a b (p + 1) :=
  x.at_ .set ⟨dx, upd_same⟩ (List.getElem?_eq_some_iff.mp h).1
theorem scNd : FnScope ["self", "allowed", "found"] ["self", "allowed"] (defScope sNeed) := ⟨rfl, rfl, rfl, by decide +kernel, rfl, by decide +kernel, by decide +kernel⟩
theorem ok_need {f fB fS fF : Addr} {fd dB dS dF : FuncData} (F : Fun K "need" "Reader.need" sNeed f fd) (T : Txt K mg c) (M : Small P w K mg base c bs fB fS fF dB dS dF) : FnOk P w K mg base (CXx P w) 4 f fd ["self", "allowed"] (spNeed K c bs) := by
  refine F.okx scNd (fun vs H Q E h => ?_) (fun cdv A outer s H vs Q E hr h => ?_)
  · obtain ⟨r, a, b, p, al, cs, rfl, _⟩ := h
    rfl
  · obtain ⟨r, a, b, p, al, cs, rfl, x, hT, k⟩ := h
    have hr1 : Room 1 _ := hr.mono (by decide)
    refine ⟨_, pss_cons (ps_set (i := 2) scNd.nd rfl (Or.inl rfl) (pe_meth0 (pv 0) T.clR M.mB M.gB hr1 M.bB .nil pass_x))
      (pss_cons (ps_if (pt_cmpR op_notIn_seq (pv 2) (pv 1) (by with_unfolding_all rfl)) (pss_one (ps_expr (pe_meth (pv 0) T.clR M.mF M.gF hr M.bF .nil pass_x (pa_cons (pe_fld (pv 0) rfl) pa_nil)))) pss_nil)
      (pss_cons (ps_expr (pe_meth0 (pv 0) T.clR M.mS M.gS hr1 M.bS .nil pass_x)) (pss_one (ps_ret (pv 2))))), ?_⟩
    refine to_set (val_byte x rfl) ?_
    rw [need_at] at k
    refine to_if (tst_in (val_var rfl) (val_var rfl) (.inr hT) rfl (flat_ints cs)) (fun hc => ?_) fun hc => ?_
    · rw [if_pos rfl, inV_ints, Bool.not_eq_true', decide_eq_false_iff_not] at hc
      refine to_fail x rfl (val_place T x rfl) (rep := isI fun z : UInt8 => (z.toNat : Int)) (Q := Q) ?_
      cases hb : bs[p]? with
      | none =>
        rw [hb] at k
        exact k
      | some cc =>
        rw [hb] at k
        dsimp only at k
        rw [if_neg (fun z => hc ⟨cc.toNat, z, (byteAt_some hb).symm⟩)] at k
        exact k
    · rw [if_pos rfl, inV_ints, Bool.not_eq_false', decide_eq_true_iff] at hc
      obtain ⟨n, hn, en⟩ := hc
      cases hb : bs[p]? with
      | none =>
        rw [byteAt_none hb] at en
        omega
      | some cc =>
        rw [byteAt_some hb] at en
        have e : n = cc.toNat := by omega
        subst e
        rw [hb] at k
        dsimp only at k
        rw [if_pos hn] at k
        refine to_step x rfl fun dx ho => to_ret (val_var rfl) ?_
        exact k _ _ (byteAt_some hb ▸ rfl) (x.step hb) .set
theorem scNu : FnScope ["self", "start", "worth"] ["self"] (defScope sNumber) := ⟨rfl, rfl, rfl, by decide +kernel, rfl, by decide +kernel, by decide +kernel⟩
theorem ok_number {f fB fS fF : Addr} {fd dB dS dF : FuncData} (F : Fun K "take_number" "Reader.take_number" sNumber f fd) (T : Txt K mg c) (M : Small P w K mg base c bs fB fS fF dB dS dF) : FnOk P w K mg base (CXx P w) 4 f fd ["self"] (spNumber K c bs) := by
  refine F.okx scNu (fun vs H Q E h => ?_) (fun cdv A outer s H vs Q E hr h => ?_)
  · obtain ⟨r, a, b, p, rfl, _⟩ := h
    rfl
  · obtain ⟨r, a, b, p, rfl, x, k⟩ := h
    have hr1 : Room 1 _ := hr.mono (by decide)
    refine ⟨_, pss_cons (ps_set (i := 1) scNu.nd rfl (Or.inl rfl) (pe_fld (pv 0) rfl)) (pss_cons (ps_set (i := 2) scNu.nd rfl (Or.inl rfl) pe_int)
      (pss_cons (ps_while passes_own_x (pt_chain op_le op_le (pe_con0 T.cZERO) (pe_meth0 (pv 0) T.clR M.mB M.gB hr1 M.bB .nil pass_x) (pe_con0 T.cNINE))
        (pss_cons (ps_if (PW.pt (pw_or (pt_cmpR op_eq (pe_fld (pv 0) rfl) (pe_op op_add (pv 1) (pe_con0 T.cDIG)) (nomark _)) (pw_or1 (PW.pt (pw_and (pt_cmpR op_gt (pe_fld (pv 0) rfl) (pv 1) (nomark _)) (pw_and1 (pt_cmpR op_eq (pv 2) pe_int (nomark _))))))))
            (pss_one (ps_expr (pe_meth (pv 0) T.clR M.mF M.gF hr M.bF .nil pass_x (pa_cons (pe_fld (pv 0) rfl) pa_nil)))) pss_nil)
          (pss_cons (ps_set (i := 2) scNu.nd rfl (Or.inl rfl) (pe_op op_sub (pe_op op_add (pe_op op_mul (pv 2) pe_int) (pe_meth0 (pv 0) T.clR M.mB M.gB hr1 M.bB .nil pass_x)) (pe_con0 T.cZERO)))
            (pss_one (ps_expr (pe_meth0 (pv 0) T.clR M.mS M.gS hr1 M.bS .nil pass_x))))))
      (pss_cons (ps_if (pt_cmpR op_eq (pe_fld (pv 0) rfl) (pv 1) (nomark _)) (pss_one (ps_expr (pe_meth (pv 0) T.clR M.mF M.gF hr M.bF .nil pass_x (pa_cons (pv 1) pa_nil)))) pss_nil)
        (pss_one (ps_ret (pv 2)))))), ?_⟩
    refine to_set (val_place T x rfl) (to_set val_c ?_)
    refine to_while (fun m σ' H' => ∃ q wv : Nat, m = p + 4 - q ∧ σ' = [some (.ref r), some (.int (p : Int)), some (.int (wv : Int))] ∧ p ≤ q ∧ q ≤ p + 3 ∧ (q = p → wv = 0) ∧ (q = p + 1 → wv < 10) ∧ (q = p + 2 → wv < 100) ∧ wv < 1000 ∧
      RS K c bs H' r a b q ∧ RR K c bs r a b (isI fun n : Nat => (n : Int)) (numFrom bs p q wv) H' Q E) ⟨p, 0, rfl, rfl, Nat.le_refl _, by omega, fun _ => rfl, by omega, by omega, by omega, x, by rw [numFrom_start]; exact k⟩ ?_
    rintro m σ' H' ⟨q, wv, rfl, rfl, h1, h2, h3, h4, h5, h6, x', k'⟩
    refine ⟨_, tst_chain val_c (val_byte x' rfl) val_c, fun hd => ?_, fun hd => ?_⟩
    · rw [Bool.and_eq_true, decide_eq_true_iff, decide_eq_true_iff] at hd
      obtain ⟨cc, hc⟩ : ∃ cc, bs[q]? = some cc := by
        cases e : bs[q]? with
        | none => rw [byteAt_none e] at hd; omega
        | some cc => exact ⟨cc, rfl⟩
      refine to_if (tst_or (tst_eqI (val_place T x' rfl) (val_add (val_var rfl) val_c)) fun _ => tst_and (tst_i (val_place T x' rfl) (val_var rfl)) fun _ => tst_eqI (val_var rfl) val_c) (fun hf => ?_) fun hf => ?_
      · have hq : q = p + 3 ∨ (p < q ∧ wv = 0) := by
          rw [Bool.or_eq_true, Bool.and_eq_true, decide_eq_true_iff, decide_eq_true_iff, decide_eq_true_iff] at hf
          omega
        rw [numFrom_fault h1 hd hq] at k'
        exact to_fail x' rfl (val_place T x' rfl) k'
      · have hq : ¬ (q = p + 3 ∨ (p < q ∧ wv = 0)) := by
          rw [Bool.or_eq_false_iff, Bool.and_eq_false_iff, decide_eq_false_iff_not, decide_eq_false_iff_not, decide_eq_false_iff_not] at hf
          omega
        rw [numFrom_step h1 hd hq h2 h3] at k'
        refine to_set (val_sub (val_add (val_mul (i := (wv : Int)) (val_var rfl) val_c (.inl ⟨by omega, by omega⟩)) (val_byte x' rfl)) val_c) ?_
        refine to_step x' rfl fun dx ho => ?_
        refine ⟨p + 4 - (q + 1), by omega, q + 1, wv * 10 + (byteAt bs q - 48).toNat, rfl, ?_, by omega, by omega, by omega, by omega, by omega, by omega, x'.step hc, k'.shift .set⟩
        have e : ((wv * 10 + (byteAt bs q - 48).toNat : Nat) : Int) = (wv : Int) * 10 + byteAt bs q - 48 := by omega
        rw [e]
        rfl
    · rw [Bool.and_eq_false_iff, decide_eq_false_iff_not, decide_eq_false_iff_not] at hd
      rw [numFrom_end h1 (by omega)] at k'
      refine to_if (tst_eqI (val_place T x' rfl) (val_var rfl)) (fun e => ?_) fun e => ?_
      · rw [decide_eq_true_iff] at e
        rw [if_pos (by omega)] at k'
        exact to_fail x' rfl (val_var rfl) k'
      · rw [decide_eq_false_iff_not] at e
        rw [if_neg (by omega)] at k'
        exact to_ret (val_var rfl) (k' _ _ rfl x' (.refl _ _))
end
end Desk
end
section
set_option Elab.async false
set_option linter.all false
set_option maxRecDepth 100000
namespace Desk
open PySem PySem.Spec PyProof.Rows L2
open Quire (Bytes)
open QuireSeen (Rd number Side letterAt sideAt charAt coreAt ofLeaf ofSide Core Finding findingAt)
theorem numB_bnd (lo hi p : Nat) (t : Bytes) : numB lo hi p t = bnd (number p t) fun l q r => if lo ≤ l ∧ l ≤ hi then .ok (l, q, r) else .error p := by
  unfold numB
  rcases number p t with e | ⟨l, q, r⟩ <;> rfl
theorem need_mem {cs : List Nat} {p q : Nat} {cc : UInt8} {t u : Bytes} (h : needAt cs p t = .ok (cc, q, u)) : cc.toNat ∈ cs := by
  cases t with
  | nil => cases h
  | cons x r =>
    rw [need_cons] at h
    split at h
    · rename_i hx
      cases h
      exact hx
    · cases h
theorem need_pos {cs : List Nat} {p q : Nat} {cc : UInt8} {t u : Bytes} (h : needAt cs p t = .ok (cc, q, u)) : q = p + 1 := by
  cases t with
  | nil => cases h
  | cons x r =>
    rw [need_cons] at h
    split at h
    · cases h
      rfl
    · cases h
section
variable {P : Program} {w : World} {K : PySem.W.Frag} {mg : Str → Option Value} {base : Heap} {c : Cs} {bs : Bytes}
/-- a new object beside: what was tracked stays -/
theorem keep_new {r al : Addr} {H : Hp} {o : HO} (n : H al = none) : Keep r H (upd H al o) := fun x u h _ => by rw [upd_ne (ne_of_none h n)]; exact h
theorem RS.keep {H H' : Hp} {r a : Addr} {b : Bool} {p : Nat} (x : RS K c bs H r a b p) (k : Keep r H H') (hr : H' r = H r) : RS K c bs H' r a b p :=
  x.at_ k (let ⟨dx, ho⟩ := x.obj; ⟨dx, hr.trans ho⟩) x.le
theorem RS.new {H : Hp} {r a al : Addr} {b : Bool} {p : Nat} {o : HO} (x : RS K c bs H r a b p) (n : H al = none) : RS K c bs (upd H al o) r a b p :=
  x.keep (keep_new n) (let ⟨_, ho⟩ := x.obj; upd_ne (ne_of_none ho n))
section
variable {H : Hp} {r a : Addr} {b : Bool} {p : Nat} {σ : L2.St} {i : Nat} {E : XK} {Q : VK}
/-- reader.need((..)) -/
theorem to_need {tt : TA} {cs : List Nat} (x : RS K c bs H r a b p) (hi : σ[i]? = some (some (.ref r))) (hs : Vls tt σ H (cs.map fun n : Nat => V.int (n : Int))) (hz : cs.length ≤ 1000)
    (k : RR K c bs r a b (isI fun z : UInt8 => (z.toNat : Int)) (needAt cs p (bs.drop p)) H Q E) : tMeth c.R "need" (spNeed K c bs) [] E (tVar i) (tCons (tTup tt) tNil) σ H Q := by
  obtain ⟨dx, ho⟩ := x.obj
  refine ⟨_, hi, r, dx, _, rfl, ho, rf_need a b p, hs _ ⟨by rw [List.length_map]; exact Nat.le_of_lt (small1000 hz), fun al n => ?_⟩⟩
  exact ⟨r, a, b, p, al, cs, rfl, x.new n, SqT.of upd_same, k.shift (keep_new n)⟩
theorem to_number {Q : VK} (x : RS K c bs H r a b p) (hi : σ[i]? = some (some (.ref r))) (k : RR K c bs r a b (isI fun n : Nat => (n : Int)) (number p (bs.drop p)) H Q E) :
    tMeth c.R "take_number" (spNumber K c bs) [] E (tVar i) tNil σ H Q :=
  let ⟨_, ho⟩ := x.obj; to_meth (val_var hi) ho (rf_number a b p) vls_nil ⟨r, a, b, p, rfl, x, k⟩
end
/-- the reader's methods that read -/
structure Big (P : Program) (w : World) (K : PySem.W.Frag) (mg : Str → Option Value) (base : Heap) (c : Cs) (bs : Bytes) (fN fU : Addr) (dN dU : FuncData) : Prop where
  gN : FnOk P w K mg base (CXx P w) 4 fN dN ["self", "allowed"] (spNeed K c bs)
  gU : FnOk P w K mg base (CXx P w) 4 fU dU ["self"] (spNumber K c bs)
  bN : Binds K dN ["self", "allowed"] []
  bU : Binds K dU ["self"] []
  mN : Meth K c.R "need" fN
  mU : Meth K c.R "take_number" fU
/-! ### read_number -/
def spRN (K : PySem.W.Frag) (c : Cs) (bs : Bytes) : Sp := fun vs H Q E => ∃ (r a : Addr) (b : Bool) (p lo hi : Nat), vs = [.ref r, .int (lo : Int), .int (hi : Int)] ∧ RS K c bs H r a b p ∧ RR K c bs r a b (isI fun n : Nat => (n : Int)) (numB lo hi p (bs.drop p)) H Q E
theorem scRN : FnScope ["reader", "least", "most", "start", "number"] ["reader", "least", "most"] (defScope sRN) := ⟨rfl, rfl, rfl, by decide +kernel, rfl, by decide +kernel, by decide +kernel⟩
theorem ok_rn {f fB fS fF fN fU : Addr} {fd dB dS dF dN dU : FuncData} (F : Fun K "read_number" "read_number" sRN f fd) (T : Txt K mg c) (M : Small P w K mg base c bs fB fS fF dB dS dF) (G : Big P w K mg base c bs fN fU dN dU) :
    FnOk P w K mg base (CXx P w) 5 f fd ["reader", "least", "most"] (spRN K c bs) := by
  refine F.okx scRN (fun vs H Q E h => ?_) (fun cdv A outer s H vs Q E hr h => ?_)
  · obtain ⟨r, a, b, p, lo, hi, rfl, _⟩ := h
    rfl
  · obtain ⟨r, a, b, p, lo, hi, rfl, x, k⟩ := h
    have hr3 : Room 3 _ := hr.mono (by decide)
    refine ⟨_, pss_cons (ps_set (i := 3) scRN.nd rfl (Or.inl rfl) (pe_fld (pv 0) rfl)) (pss_cons (ps_set (i := 4) scRN.nd rfl (Or.inl rfl) (pe_meth0 (pv 0) T.clR G.mU G.gU hr G.bU .nil pass_x))
      (pss_cons (ps_if (PW.pt (pw_or (pt_cmpR op_lt (pv 4) (pv 1) (nomark _)) (pw_or1 (pt_cmpR op_gt (pv 4) (pv 2) (nomark _)))))
        (pss_one (ps_expr (pe_meth (pv 0) T.clR M.mF M.gF hr3 M.bF .nil pass_x (pa_cons (pv 3) pa_nil)))) pss_nil) (pss_one (ps_ret (pv 4))))), ?_⟩
    refine to_set (val_place T x rfl) ?_
    rw [numB_bnd] at k
    refine to_number x rfl (k.seq (suf_number x.le) fun l q v H' e h1 h2 hv x' kp k' => ?_)
    obtain rfl : v = .int (l : Int) := hv
    refine to_if (tst_or (tst_i (val_var rfl) (val_var rfl)) fun _ => tst_i (val_var rfl) (val_var rfl)) (fun hf => ?_) fun hf => ?_
    · rw [Bool.or_eq_true, decide_eq_true_iff, decide_eq_true_iff] at hf
      rw [if_neg (by omega)] at k'
      exact to_fail x' rfl (val_var rfl) k'
    · rw [Bool.or_eq_false_iff, decide_eq_false_iff_not, decide_eq_false_iff_not] at hf
      rw [if_pos (by omega)] at k'
      exact to_ret (val_var rfl) (k'.ok rfl x')
/-! ### read_letter, read_side -/
def b2n (b : Bool) : Nat := if b = true then 1 else 0
def spRL (K : PySem.W.Frag) (c : Cs) (bs : Bytes) : Sp := fun vs H Q E => ∃ (r a : Addr) (b : Bool) (p : Nat), vs = [.ref r] ∧ RS K c bs H r a b p ∧ RR K c bs r a b (isI fun z : Bool => (b2n z : Int)) (letterAt p (bs.drop p)) H Q E
theorem scRL : FnScope ["reader"] ["reader"] (defScope sRL) := ⟨rfl, rfl, rfl, by decide +kernel, rfl, by decide +kernel, by decide +kernel⟩
theorem ok_rl {f fN fU : Addr} {fd dN dU : FuncData} (F : Fun K "read_letter" "read_letter" sRL f fd) (T : Txt K mg c) (G : Big P w K mg base c bs fN fU dN dU) : FnOk P w K mg base (CXx P w) 5 f fd ["reader"] (spRL K c bs) := by
  refine F.okx scRL (fun vs H Q E h => ?_) (fun cdv A outer s H vs Q E hr h => ?_)
  · obtain ⟨r, a, b, p, rfl, _⟩ := h
    rfl
  · obtain ⟨r, a, b, p, rfl, x, k⟩ := h
    refine ⟨_, pss_one (ps_ret (pe_op op_sub (pe_meth (pv 0) T.clR G.mN G.gN hr G.bN .nil pass_x (pa_cons (pe_tup (pa_cons (pe_con0 T.cA) (pa_cons (pe_con0 T.cB) pa_nil))) pa_nil)) (pe_con0 T.cA))), ?_⟩
    rw [letterAt_bnd] at k
    refine to_need (cs := [97, 98]) x rfl (vls_cons val_c (vls_cons val_c vls_nil)) (by decide) (k.seq (suf_need x.le) fun cc q v H' e h1 h2 hv x' kp k' => ?_)
    obtain rfl : v = .int (cc.toNat : Int) := hv
    refine ⟨_, _, rfl, rfl, ?_⟩
    refine k'.ok ?_ x'
    have hm := need_mem e
    simp only [List.mem_cons, List.not_mem_nil, or_false] at hm
    show V.int ((cc.toNat : Int) - 97) = V.int _
    rcases hm with hm | hm
    · rw [hm]; rfl
    · rw [hm]; rfl
theorem key_int (l : Nat) (z : Bool) : 2 * (l : Int) + (b2n z : Int) = ((Side.key ⟨l, z⟩ : Nat) : Int) := by
  rw [side_key]
  unfold b2n
  cases z <;> simp
def spRSd (K : PySem.W.Frag) (c : Cs) (bs : Bytes) : Sp := fun vs H Q E => ∃ (r a : Addr) (b : Bool) (p n : Nat), vs = [.ref r, .int (n : Int)] ∧ n ≤ 16 ∧ RS K c bs H r a b p ∧ RR K c bs r a b (isI fun z : Side => (z.key : Int)) (sideAt n p (bs.drop p)) H Q E
theorem scRSd : FnScope ["reader", "leaves", "leaf"] ["reader", "leaves"] (defScope sRSd) := ⟨rfl, rfl, rfl, by decide +kernel, rfl, by decide +kernel, by decide +kernel⟩
/-- the small readings of the text -/
structure Rds (P : Program) (w : World) (K : PySem.W.Frag) (mg : Str → Option Value) (base : Heap) (c : Cs) (bs : Bytes) (fN fL : Addr) (dN dL : FuncData) : Prop where
  gN : FnOk P w K mg base (CXx P w) 5 fN dN ["reader", "least", "most"] (spRN K c bs)
  gL : FnOk P w K mg base (CXx P w) 5 fL dL ["reader"] (spRL K c bs)
  bN : Binds K dN ["reader", "least", "most"] []
  bL : Binds K dL ["reader"] []
  kN : PySem.W.keepIn K (.ref fN) = true
  kL : PySem.W.keepIn K (.ref fL) = true
  mN : mg "read_number" = some (.ref fN)
  mL : mg "read_letter" = some (.ref fL)
section
variable {H : Hp} {r a : Addr} {b : Bool} {p : Nat} {σ : L2.St} {E : XK} {Q : VK}
theorem to_rn {t : TA} {lo hi : Nat} (x : RS K c bs H r a b p) (hs : Vls t σ H [.ref r, .int (lo : Int), .int (hi : Int)]) (k : RR K c bs r a b (isI fun n : Nat => (n : Int)) (numB lo hi p (bs.drop p)) H Q E) : tCall (spRN K c bs) [] E t σ H Q :=
  to_call hs ⟨r, a, b, p, lo, hi, rfl, x, k⟩
theorem to_rl {t : TA} (x : RS K c bs H r a b p) (hs : Vls t σ H [.ref r]) (k : RR K c bs r a b (isI fun z : Bool => (b2n z : Int)) (letterAt p (bs.drop p)) H Q E) : tCall (spRL K c bs) [] E t σ H Q :=
  to_call hs ⟨r, a, b, p, rfl, x, k⟩
theorem to_rs {t : TA} {n : Nat} (x : RS K c bs H r a b p) (hn : n ≤ 16) (hs : Vls t σ H [.ref r, .int (n : Int)]) (k : RR K c bs r a b (isI fun z : Side => (z.key : Int)) (sideAt n p (bs.drop p)) H Q E) : tCall (spRSd K c bs) [] E t σ H Q :=
  to_call hs ⟨r, a, b, p, n, rfl, hn, x, k⟩
end
theorem ok_rsd {f fN fL : Addr} {fd dN dL : FuncData} (F : Fun K "read_side" "read_side" sRSd f fd) (T : Txt K mg c) (R : Rds P w K mg base c bs fN fL dN dL) : FnOk P w K mg base (CXx P w) 6 f fd ["reader", "leaves"] (spRSd K c bs) := by
  refine F.okx scRSd (fun vs H Q E h => ?_) (fun cdv A outer s H vs Q E hr h => ?_)
  · obtain ⟨r, a, b, p, n, rfl, _⟩ := h
    rfl
  · obtain ⟨r, a, b, p, n, rfl, hn, x, k⟩ := h
    refine ⟨_, pss_cons (ps_set (i := 2) scRSd.nd rfl (Or.inl rfl) (pe_call R.gN hr rfl R.mN R.kN R.bN .nil pass_x (pa_cons (pv 0) (pa_cons pe_int (pa_cons (pv 1) pa_nil)))))
      (pss_one (ps_ret (pe_op op_add (pe_op op_mul pe_int (pv 2)) (pe_call R.gL hr rfl R.mL R.kL R.bL .nil pass_x (pa_cons (pv 0) pa_nil))))), ?_⟩
    rw [sideAt_bnd] at k
    refine to_rn (lo := 1) (hi := n) x (vls_cons (val_var rfl) (vls_cons val_c (vls_cons (val_var rfl) vls_nil))) (k.seq (suf_numB x.le) fun l q v H' e h1 h2 hv x' kp k' => ?_)
    obtain rfl : v = .int (l : Int) := hv
    refine val_mul (i := 2) (j := (l : Int)) val_c (val_var rfl) (.inl ⟨by decide, by decide⟩) _ ?_
    refine to_rl x' (vls_cons (val_var rfl) vls_nil) (k'.seq (suf_letter x'.le) fun z q2 v H2 e2 h3 h4 hv x2 kp2 k2 => ?_)
    obtain rfl : v = .int (b2n z : Int) := hv
    refine ⟨_, _, rfl, rfl, k2.ok ?_ x2⟩
    show V.int (2 * (l : Int) + (b2n z : Int)) = V.int ((Side.key ⟨l, z⟩ : Nat) : Int)
    exact congrArg V.int (key_int l z)
end
end Desk
end
section
set_option Elab.async false
set_option linter.all false
set_option maxRecDepth 100000
namespace Desk
open PySem PySem.Spec PyProof.Rows L2
open Quire (Bytes)
open QuireSeen (Rd number Side letterAt sideAt charAt coreAt ofLeaf ofSide Core Finding findingAt leafAt)
/-! ### how a finding is kept: its sign, its leaves or sides -/
def sgn : Core → Nat
  | .next _ _ => 62
  | .faces _ _ => 124
  | .front _ => 94
  | .sheet _ _ => 61
  | .alone _ => 61
  | .before _ _ => 60
  | .together _ _ => 126
  | .hole _ => 111
  | .hair _ => 104
def prt : Core → List Nat
  | .next s t => [s.key, t.key]
  | .faces s t => [s.key, t.key]
  | .front s => [s.key]
  | .sheet l m => [l, m]
  | .alone l => [l, 0]
  | .before l m => [l, m]
  | .together l m => [l, m]
  | .hole l => l
  | .hair l => l.map Side.key
def nv (l : List Nat) : List V := l.map fun n : Nat => V.int (n : Int)
theorem RS.same {K : PySem.W.Frag} {c : Cs} {bs : Bytes} {H H' : Hp} {r a : Addr} {b : Bool} {p : Nat} (x : RS K c bs H r a b p) (s : Same H H') : RS K c bs H' r a b p :=
  x.at_ (.same s) (let ⟨dx, ho⟩ := x.obj; ⟨dx, s _ _ ho⟩) x.le
/-! ### a Finding -/
def ff (no : Bool) (sg : Int) (y : Addr) : List (Str × V) := [("negated", .bl no), ("sign", .int sg), ("told", .ref y)]
theorem ff_ne {no : Bool} {sg : Int} {y a : Addr} {b : Bool} {p : Nat} : ff no sg y ≠ rf a b p := fun h => absurd (congrArg (List.map Prod.fst) h) (by decide +kernel : ¬ ([("negated" : Str), ("sign" : Str), ("told" : Str)] = [("text" : Str), ("of_book" : Str), ("place" : Str)]))
theorem ff_make (no : Bool) (sg : Int) (y : Addr) : putF "told" (.ref y) (putF "sign" (.int sg) (putF "negated" (.bl no) [])) = ff no sg y := by
  have e : ¬ (("negated" : Str) = ("sign" : Str)) := by decide +kernel
  have e1 : ¬ (("negated" : Str) = ("told" : Str)) := by decide +kernel
  have e2 : ¬ (("sign" : Str) = ("told" : Str)) := by decide +kernel
  simp only [ff, putF, if_neg e, if_neg e1, if_neg e2]
theorem ff_neg (no : Bool) (sg : Int) (y : Addr) : (ff no sg y).lookup ("negated" : Str) = some (.bl no) := by
  simp only [ff, List.lookup, beq_self_eq_true]
theorem ff_sign (no : Bool) (sg : Int) (y : Addr) : (ff no sg y).lookup ("sign" : Str) = some (.int sg) := by
  have e : (("sign" : Str) == ("negated" : Str)) = false := by decide +kernel
  simp only [ff, List.lookup, e, beq_self_eq_true]
theorem ff_told (no : Bool) (sg : Int) (y : Addr) : (ff no sg y).lookup ("told" : Str) = some (.ref y) := by
  have e : (("told" : Str) == ("negated" : Str)) = false := by decide +kernel
  have e1 : (("told" : Str) == ("sign" : Str)) = false := by decide +kernel
  simp only [ff, List.lookup, e, e1, beq_self_eq_true]
def spFiInit (c : Cs) : Sp := fun vs H Q _ => ∃ x dx no sg y, vs = [.ref x, .bl no, .int sg, .ref y] ∧ H x = some (.ins c.Fi dx []) ∧ ∀ H', H' x = some (.ins c.Fi dx (ff no sg y)) → Keep x H H' → Q .non H'
/-- the Finding stands at v -/
def RepC (c : Cs) (no : Bool) : Core → V → Hp → Prop := fun o v H => ∃ x dx y, v = .ref x ∧ H x = some (.ins c.Fi dx (ff no (sgn o) y)) ∧ H y = some (.tup (nv (prt o)))
theorem RepC.keep {c : Cs} {no : Bool} {o : Core} {v : V} {H H' : Hp} {r a dr : Addr} {b : Bool} {p : Nat} (h : RepC c no o v H) (k : Keep r H H') (hr : H r = some (.ins c.R dr (rf a b p))) : RepC c no o v H' := by
  obtain ⟨x, dx, y, e, h1, h2⟩ := h
  refine ⟨x, dx, y, e, k _ _ h1 (fun z => ?_), k _ _ h2 (ne_of h2 hr (by intro z; cases z))⟩
  rw [z, hr] at h1
  injection h1 with h1
  injection h1 with _ _ h1
  exact ff_ne h1.symm
theorem RepC.same {c : Cs} {no : Bool} {o : Core} {v : V} {H H' : Hp} (h : RepC c no o v H) (s : Same H H') : RepC c no o v H' :=
  let ⟨x, dx, y, e, h1, h2⟩ := h; ⟨x, dx, y, e, s _ _ h1, s _ _ h2⟩
theorem coreL_sgn {cc : UInt8} {l x : Nat} (h : cc.toNat ∈ [61, 60, 126]) : sgn (coreL cc l x) = cc.toNat := by
  simp only [List.mem_cons, List.not_mem_nil, or_false] at h
  unfold coreL
  rcases h with h | h | h
  · rw [if_pos h]
    split <;> simp [sgn, h]
  · rw [if_neg (by omega), if_pos h]
    simp [sgn, h]
  · rw [if_neg (by omega), if_neg (by omega)]
    simp [sgn, h]
theorem coreL_prt {cc : UInt8} {l x : Nat} : prt (coreL cc l x) = [l, x] := by
  unfold coreL
  split
  · split
    · rename_i e
      rw [e]
      rfl
    · rfl
  · split <;> rfl
section
variable {P : Program} {w : World} {K : PySem.W.Frag} {mg : Str → Option Value} {base : Heap} {c : Cs} {bs : Bytes}
theorem to_next {D : Ends} {σ : L2.St} {H : Hp} (h : D.nx σ H) : tNext D σ H := h
theorem scFi : FnScope ["self", "negated", "sign", "told"] ["self", "negated", "sign", "told"] (defScope sFiInit) := ⟨rfl, rfl, rfl, by decide +kernel, rfl, by decide +kernel, by decide +kernel⟩
theorem ok_fiinit {f : Addr} {fd : FuncData} (F : Fun K "__init__" "Finding.__init__" sFiInit f fd) (T : Txt K mg c) : FnOk P w K mg base (CXx P w) 1 f fd ["self", "negated", "sign", "told"] (spFiInit c) := by
  refine F.okx scFi (fun vs H Q E h => ?_) (fun cdv A outer s H vs Q E hr h => ?_)
  · obtain ⟨x, dx, no, sg, y, rfl, _⟩ := h
    rfl
  · obtain ⟨x, dx, no, sg, y, rfl, ho, k⟩ := h
    refine ⟨_, pss_cons (ps_fld (pv 0) (pv 1) rfl) (pss_cons (ps_fld (pv 0) (pv 2) rfl) (pss_one (ps_fld (pv 0) (pv 3) rfl))), ?_⟩
    refine ⟨_, rfl, _, rfl, x, c.Fi, dx, _, rfl, ho, T.clF, T.nNg, (by show 0 < 1000; decide), ?_⟩
    refine ⟨_, rfl, _, rfl, x, c.Fi, dx, _, rfl, upd_same, T.clF, T.nSg, (by show 1 < 1000; decide), ?_⟩
    refine ⟨_, rfl, _, rfl, x, c.Fi, dx, _, rfl, upd_same, T.clF, T.nTo, Nat.lt_of_le_of_lt (Nat.le_trans (length_putF _ _ _) (Nat.add_le_add_right (length_putF _ _ _) 1)) (by decide), ?_⟩
    refine k _ (upd_same.trans ?_) fun x o h n => by rw [upd_ne n, upd_ne n, upd_ne n]; exact h
    exact congrArg (fun q => some (HO.ins c.Fi dx q)) (ff_make no sg y)
structure FiM (P : Program) (w : World) (K : PySem.W.Frag) (mg : Str → Option Value) (base : Heap) (c : Cs) (f : Addr) (fd : FuncData) : Prop where
  M : Mk K c.Fi f
  G : FnOk P w K mg base (CXx P w) 1 f fd ["self", "negated", "sign", "told"] (spFiInit c)
  b : Binds K fd ["self", "negated", "sign", "told"] []
/-- Finding(negated, sign, (..)) is handed back -/
theorem to_pair {H : Hp} {r a : Addr} {b no : Bool} {q : Nat} {σ : L2.St} {E : XK} {D : Ends} {o : Core} {tn ts : TE} {tt : TA} (x : RS K c bs H r a b q) (h0 : Val tn σ H (.bl no)) (h1 : Val ts σ H (.int (sgn o : Int))) (h2 : Vls tt σ H (nv (prt o))) (hz : (prt o).length ≤ 1000)
    (k : RR K c bs r a b (RepC c no) (.ok (o, q, bs.drop q)) H D.rt E) : tRet (tMake c.Fi (spFiInit c) [] E (tCons tn (tCons ts (tCons (tTup tt) tNil)))) D σ H := by
  refine h0 _ (h1 _ (h2 _ ⟨by unfold nv; rw [List.length_map]; exact Nat.le_of_lt (small1000 hz), fun y n => fun z dz nz nd ne => ?_⟩))
  refine ⟨z, dz, no, _, y, rfl, upd_same, fun H' hx kp => ⟨rfl, ?_⟩⟩
  have s0 : Same H (upd H y (.tup (nv (prt o)))) := fun b u h => by rw [upd_ne (ne_of_none h n)]; exact h
  have s1 := Same.made nz nd kp
  exact k _ _ ⟨z, dz, y, rfl, hx, s1 _ _ upd_same⟩ (x.same (s0.trans s1)) (.same (s0.trans s1))
def spBL (K : PySem.W.Frag) (c : Cs) (bs : Bytes) : Sp := fun vs H Q E => ∃ (r a : Addr) (b no : Bool) (p n l : Nat), vs = [.ref r, .int (n : Int), .bl no, .int (l : Int)] ∧ 1 ≤ l ∧ RS K c bs H r a b p ∧ RR K c bs r a b (RepC c no) (ofLeaf n l p (bs.drop p)) H Q E
theorem scBL : FnScope ["reader", "leaves", "negated", "leaf", "sign", "start", "other"] ["reader", "leaves", "negated", "leaf"] (defScope sBL) := ⟨rfl, rfl, rfl, by decide +kernel, rfl, by decide +kernel, by decide +kernel⟩
theorem ok_bl {f fB fS fF fN fU gN gL : Addr} {fd dB dS dF dN dU eN eL : FuncData} (F : Fun K "read_behind_leaf" "read_behind_leaf" sBL f fd) (T : Txt K mg c) (M : Small P w K mg base c bs fB fS fF dB dS dF) (G : Big P w K mg base c bs fN fU dN dU)
    (R : Rds P w K mg base c bs gN gL eN eL) {fM : Addr} {dM : FuncData} (MF : FiM P w K mg base c fM dM) : FnOk P w K mg base (CXx P w) 6 f fd ["reader", "leaves", "negated", "leaf"] (spBL K c bs) := by
  refine F.okx scBL (fun vs H Q E h => ?_) (fun cdv A outer s H vs Q E hr h => ?_)
  · obtain ⟨r, a, b, no, p, n, l, rfl, _⟩ := h
    rfl
  · obtain ⟨r, a, b, no, p, n, l, rfl, hl, x, k⟩ := h
    have hr2 : Room 2 _ := hr.mono (by decide)
    have hr3 : Room 3 _ := hr.mono (by decide)
    have hr4 : Room 4 _ := hr.mono (by decide)
    refine ⟨_, pss_cons (ps_expr (pe_meth (pv 0) T.clR G.mN G.gN hr4 G.bN .nil pass_x (pa_cons (pe_tup (pa_cons (pe_con0 T.cBLANK) pa_nil)) pa_nil)))
      (pss_cons (ps_set (i := 4) scBL.nd rfl (Or.inl rfl) (pe_meth (pv 0) T.clR G.mN G.gN hr4 G.bN .nil pass_x (pa_cons (pe_tup (pa_cons (pe_con0 T.cEQ) (pa_cons (pe_con0 T.cLESS) (pa_cons (pe_con0 T.cTILDE) pa_nil)))) pa_nil)))
      (pss_cons (ps_expr (pe_meth (pv 0) T.clR G.mN G.gN hr4 G.bN .nil pass_x (pa_cons (pe_tup (pa_cons (pe_con0 T.cBLANK) pa_nil)) pa_nil)))
      (pss_cons (ps_set (i := 5) scBL.nd rfl (Or.inl rfl) (pe_fld (pv 0) rfl))
      (pss_cons (ps_set (i := 6) scBL.nd rfl (Or.inl rfl) (pe_call R.gN hr rfl R.mN R.kN R.bN .nil pass_x (pa_cons (pv 0) (pa_cons (pe_ifExp (pt_cmpR op_eq (pv 4) (pe_con0 T.cEQ) (nomark _)) pe_int pe_int) (pa_cons (pv 1) pa_nil)))))
      (pss_cons (ps_if (pt_cmpR op_eq (pv 6) (pv 3) (nomark _)) (pss_one (ps_expr (pe_meth (pv 0) T.clR M.mF M.gF hr3 M.bF .nil pass_x (pa_cons (pv 5) pa_nil)))) pss_nil)
      (pss_one (ps_ret (pe_make MF.M MF.G hr2 rfl T.mgFi MF.b .nil pass_x (pa_cons (pv 2) (pa_cons (pv 4) (pa_cons (pe_tup (pa_cons (pv 3) (pa_cons (pv 6) pa_nil))) pa_nil))))))))))), ?_⟩
    rw [ofLeaf_bnd hl, charAt_bnd, bnd_bnd] at k
    refine to_need (cs := [32]) x rfl (vls_cons val_c vls_nil) (by decide) (k.seq (suf_need x.le) fun c1 q1 v1 H1 e1 _ g1 hv1 x1 kp1 k1 => ?_)
    rw [bnd_ok] at k1
    refine to_need (cs := [61, 60, 126]) x1 rfl (vls_cons val_c (vls_cons val_c (vls_cons val_c vls_nil))) (by decide) (k1.seq (suf_need x1.le) fun c2 q2 v2 H2 e2 _ g2 hv2 x2 kp2 k2 => ?_)
    obtain rfl : v2 = .int (c2.toNat : Int) := hv2
    rw [charAt_bnd, bnd_bnd] at k2
    refine to_need (cs := [32]) x2 rfl (vls_cons val_c vls_nil) (by decide) (k2.seq (suf_need x2.le) fun c3 q3 v3 H3 e3 _ g3 hv3 x3 kp3 k3 => ?_)
    rw [bnd_ok] at k3
    refine to_set (val_place T x3 rfl) ?_
    refine to_rn (lo := if c2.toNat = 61 then 0 else 1) (hi := n) x3 (vls_cons (val_var rfl) (vls_cons (val_if (tst_eqI (val_var rfl) val_c) (fun h => ?_) fun h => ?_) (vls_cons (val_var rfl) vls_nil))) (k3.seq (suf_numB x3.le) fun y q4 v4 H4 e4 _ g4 hv4 x4 kp4 k4 => ?_)
    · rw [decide_eq_true_iff] at h
      rw [if_pos (by omega)]
      exact val_c
    · rw [decide_eq_false_iff_not] at h
      rw [if_neg (by omega)]
      exact val_c
    obtain rfl : v4 = .int (y : Int) := hv4
    refine to_if (tst_eqI (val_var rfl) (val_var rfl)) (fun h => ?_) fun h => ?_
    · rw [decide_eq_true_iff] at h
      rw [if_neg (show ¬ y ≠ l from fun z => z (by omega))] at k4
      exact to_fail x4 rfl (val_var rfl) k4
    · rw [decide_eq_false_iff_not] at h
      rw [if_pos (show y ≠ l from fun z => h (by omega))] at k4
      refine to_next ?_
      dsimp only
      refine to_pair (o := coreL c2 l y) (E := E) x4 (val_var rfl) ?_ ?_ (by rw [coreL_prt]; show 2 ≤ 1000; decide) ?_
      rotate_left 2
      · exact k4
      · rw [coreL_sgn (need_mem e2)]
        exact val_var rfl
      · rw [coreL_prt]
        exact vls_cons (val_var rfl) (vls_cons (val_var rfl) vls_nil)
def spBS (K : PySem.W.Frag) (c : Cs) (bs : Bytes) : Sp := fun vs H Q E => ∃ (r a : Addr) (b no : Bool) (p n : Nat) (sd : Side), vs = [.ref r, .int (n : Int), .bl no, .int (sd.key : Int)] ∧ n ≤ 16 ∧ RS K c bs H r a b p ∧ RR K c bs r a b (RepC c no) (ofSide n sd p (bs.drop p)) H Q E
theorem scBS : FnScope ["reader", "leaves", "negated", "side", "sign", "start", "other"] ["reader", "leaves", "negated", "side"] (defScope sBS) := ⟨rfl, rfl, rfl, by decide +kernel, rfl, by decide +kernel, by decide +kernel⟩
theorem key_half (sd : Side) : ((sd.key : Nat) : Int) / 2 = (sd.leaf : Int) := by
  rw [side_key]
  split <;> omega
theorem ok_bs {f fB fS fF fN fU gS : Addr} {fd dB dS dF dN dU eS : FuncData} (F : Fun K "read_behind_side" "read_behind_side" sBS f fd) (T : Txt K mg c) (M : Small P w K mg base c bs fB fS fF dB dS dF) (G : Big P w K mg base c bs fN fU dN dU)
    (GS : FnOk P w K mg base (CXx P w) 6 gS eS ["reader", "leaves"] (spRSd K c bs)) (bS : Binds K eS ["reader", "leaves"] []) (kS : PySem.W.keepIn K (.ref gS) = true) (mS : mg "read_side" = some (.ref gS)) {fM : Addr} {dM : FuncData} (MF : FiM P w K mg base c fM dM) :
    FnOk P w K mg base (CXx P w) 7 f fd ["reader", "leaves", "negated", "side"] (spBS K c bs) := by
  refine F.okx scBS (fun vs H Q E h => ?_) (fun cdv A outer s H vs Q E hr h => ?_)
  · obtain ⟨r, a, b, no, p, n, sd, rfl, _⟩ := h
    rfl
  · obtain ⟨r, a, b, no, p, n, sd, rfl, hn, x, k⟩ := h
    have hr2 : Room 2 _ := hr.mono (by decide)
    have hr3 : Room 3 _ := hr.mono (by decide)
    have hr4 : Room 4 _ := hr.mono (by decide)
    refine ⟨_, pss_cons (ps_expr (pe_meth (pv 0) T.clR G.mN G.gN hr4 G.bN .nil pass_x (pa_cons (pe_tup (pa_cons (pe_con0 T.cBLANK) pa_nil)) pa_nil)))
      (pss_cons (ps_set (i := 4) scBS.nd rfl (Or.inl rfl) (pe_meth (pv 0) T.clR G.mN G.gN hr4 G.bN .nil pass_x (pa_cons (pe_tup (pa_cons (pe_con0 T.cGT) (pa_cons (pe_con0 T.cBAR) (pa_cons (pe_con0 T.cCARET) pa_nil)))) pa_nil)))
      (pss_cons (ps_if (pt_cmpR op_eq (pv 4) (pe_con0 T.cCARET) (nomark _)) (pss_one (ps_ret (pe_make MF.M MF.G hr2 rfl T.mgFi MF.b .nil pass_x (pa_cons (pv 2) (pa_cons (pv 4) (pa_cons (pe_tup (pa_cons (pv 3) pa_nil)) pa_nil)))))) pss_nil)
      (pss_cons (ps_expr (pe_meth (pv 0) T.clR G.mN G.gN hr4 G.bN .nil pass_x (pa_cons (pe_tup (pa_cons (pe_con0 T.cBLANK) pa_nil)) pa_nil)))
      (pss_cons (ps_set (i := 5) scBS.nd rfl (Or.inl rfl) (pe_fld (pv 0) rfl))
      (pss_cons (ps_set (i := 6) scBS.nd rfl (Or.inl rfl) (pe_call GS hr rfl mS kS bS .nil pass_x (pa_cons (pv 0) (pa_cons (pv 1) pa_nil))))
      (pss_cons (ps_if (PW.pt (pw_or (pt_cmpR op_eq (pv 6) (pv 3) (nomark _)) (pw_or1 (PW.pt (pw_and (pt_cmpR op_eq (pv 4) (pe_con0 T.cBAR) (nomark _)) (pw_and1 (pt_cmpR op_eq (pe_op op_fdiv (pv 6) pe_int) (pe_op op_fdiv (pv 3) pe_int) (nomark _))))))))
        (pss_one (ps_expr (pe_meth (pv 0) T.clR M.mF M.gF hr3 M.bF .nil pass_x (pa_cons (pv 5) pa_nil)))) pss_nil)
      (pss_one (ps_ret (pe_make MF.M MF.G hr2 rfl T.mgFi MF.b .nil pass_x (pa_cons (pv 2) (pa_cons (pv 4) (pa_cons (pe_tup (pa_cons (pv 3) (pa_cons (pv 6) pa_nil))) pa_nil)))))))))))), ?_⟩
    rw [ofSide_bnd, charAt_bnd, bnd_bnd] at k
    refine to_need (cs := [32]) x rfl (vls_cons val_c vls_nil) (by decide) (k.seq (suf_need x.le) fun c1 q1 v1 H1 e1 _ g1 hv1 x1 kp1 k1 => ?_)
    rw [bnd_ok] at k1
    refine to_need (cs := [62, 124, 94]) x1 rfl (vls_cons val_c (vls_cons val_c (vls_cons val_c vls_nil))) (by decide) (k1.seq (suf_need x1.le) fun c2 q2 v2 H2 e2 _ g2 hv2 x2 kp2 k2 => ?_)
    obtain rfl : v2 = .int (c2.toNat : Int) := hv2
    have hm := need_mem e2
    simp only [List.mem_cons, List.not_mem_nil, or_false] at hm
    refine to_if (tst_eqI (val_var rfl) val_c) (fun h => ?_) fun h => ?_
    · rw [decide_eq_true_iff] at h
      have h94 : c2.toNat = 94 := by omega
      rw [if_pos h94] at k2
      refine to_pair (o := Core.front sd) (E := E) x2 (val_var rfl) ?_ ?_ (by show 1 ≤ 1000; decide) ?_
      rotate_left 2
      · exact k2
      · rw [show ((sgn (Core.front sd) : Nat) : Int) = (c2.toNat : Int) from congrArg (fun z : Nat => (z : Int)) h94.symm]
        exact val_var rfl
      · exact vls_cons (val_var rfl) vls_nil
    · rw [decide_eq_false_iff_not] at h
      rw [if_neg (by omega)] at k2
      rw [charAt_bnd, bnd_bnd] at k2
      refine to_need (cs := [32]) x2 rfl (vls_cons val_c vls_nil) (by decide) (k2.seq (suf_need x2.le) fun c3 q3 v3 H3 e3 _ g3 hv3 x3 kp3 k3 => ?_)
      rw [bnd_ok] at k3
      refine to_set (val_place T x3 rfl) ?_
      refine to_rs (n := n) x3 hn (vls_cons (val_var rfl) (vls_cons (val_var rfl) vls_nil)) (k3.seq (suf_side x3.le) fun y q4 v4 H4 e4 _ g4 hv4 x4 kp4 k4 => ?_)
      obtain rfl : v4 = .int (y.key : Int) := hv4
      have hiff : (y = sd ∨ (c2.toNat = 124 ∧ y.leaf = sd.leaf)) ↔ ((y.key : Int) = (sd.key : Int) ∨ ((c2.toNat : Int) = 124 ∧ (y.key : Int) / 2 = (sd.key : Int) / 2)) := by
        rw [key_half, key_half]
        constructor
        · rintro (z | ⟨z1, z2⟩)
          · exact .inl (by rw [z])
          · exact .inr ⟨by omega, by omega⟩
        · rintro (z | ⟨z1, z2⟩)
          · exact .inl (side_inj (by omega))
          · exact .inr ⟨by omega, by omega⟩
      refine to_if (tst_or (tst_eqI (val_var rfl) (val_var rfl)) fun _ => tst_and (tst_eqI (val_var rfl) val_c) fun _ => tst_eqI (val_div (j := 2) (val_var rfl) val_c ⟨by decide, by decide⟩) (val_div (j := 2) (val_var rfl) val_c ⟨by decide, by decide⟩)) (fun h2 => ?_) fun h2 => ?_
      · rw [Bool.or_eq_true, Bool.and_eq_true, decide_eq_true_iff, decide_eq_true_iff, decide_eq_true_iff, ← hiff] at h2
        rw [if_pos h2] at k4
        exact to_fail x4 rfl (val_var rfl) k4
      · have h3 : ¬ (y = sd ∨ (c2.toNat = 124 ∧ y.leaf = sd.leaf)) := by
          rw [hiff]
          rw [Bool.or_eq_false_iff, Bool.and_eq_false_iff, decide_eq_false_iff_not, decide_eq_false_iff_not, decide_eq_false_iff_not] at h2
          rintro (z | ⟨z1, z2⟩)
          · exact h2.1 z
          · exact h2.2.elim (fun g => g z1) fun g => g z2
        rw [if_neg h3] at k4
        have hs : ((sgn (if c2.toNat = 62 then Core.next sd y else Core.faces sd y) : Nat) : Int) = (c2.toNat : Int) := by
          by_cases z : c2.toNat = 62
          · rw [if_pos z, z]; rfl
          · rw [if_neg z, show c2.toNat = 124 by omega]; rfl
        have hp : prt (if c2.toNat = 62 then Core.next sd y else Core.faces sd y) = [sd.key, y.key] := by split <;> rfl
        refine to_next ?_
        dsimp only
        refine to_pair (o := if c2.toNat = 62 then Core.next sd y else Core.faces sd y) (E := E) x4 (val_var rfl) ?_ ?_ (by rw [hp]; show 2 ≤ 1000; decide) ?_
        rotate_left 2
        · exact k4
        · rw [hs]
          exact val_var rfl
        · rw [hp]
          exact vls_cons (val_var rfl) (vls_cons (val_var rfl) vls_nil)
end
end Desk
end
section
set_option Elab.async false
set_option linter.all false
set_option maxRecDepth 100000
namespace Desk
open PySem PySem.Spec PyProof.Rows L2
open Quire (Bytes)
open QuireSeen (Rd number Side letterAt sideAt charAt coreAt ofLeaf ofSide Core Finding findingAt leafAt several)
theorem hd_iff {bs : Bytes} {q : Nat} {k : UInt8} : (bs.drop q).head? = some k ↔ byteAt bs q = (k.toNat : Int) := by
  rw [List.head?_drop]
  cases h : bs[q]? with
  | none =>
    rw [byteAt_none h]
    constructor
    · intro z
      cases z
    · intro z
      omega
  | some c =>
    rw [byteAt_some h]
    constructor
    · intro z
      cases z
      rfl
    · intro z
      rw [u8_eq.mpr (show c.toNat = k.toNat by omega)]
theorem to_ifE {σ : L2.St} {H : Hp} {tt : TT} {t u : TE} {Q : VK} {cc : Bool} (ht : Tst tt σ H cc) (h1 : cc = true → t σ H Q) (h2 : cc = false → u σ H Q) : tIf tt t u σ H Q := ht _ (by
  cases cc with
  | true => rw [if_pos rfl]; exact h1 rfl
  | false => rw [if_neg Bool.false_ne_true]; exact h2 rfl)
theorem len_nv (l : List Nat) : (nv l).length = l.length := by unfold nv; rw [List.length_map]
section
variable {P : Program} {w : World} {K : PySem.W.Frag} {mg : Str → Option Value} {base : Heap} {c : Cs} {bs : Bytes}
theorem val_len {σ : L2.St} {H : Hp} {i : Nat} {l : Addr} {xs : List V} (hi : σ[i]? = some (some (.ref l))) (h : SqL K H l xs ∨ SqT K H l xs) :
    Val (tCB (fun vs H Q => ∃ p ys, vs = [.ref p] ∧ (SqL K H p ys ∨ SqT K H p ys) ∧ Q (.int ys.length) H) (tCons (tVar i) tNil)) σ H (.int (xs.length : Int)) :=
  val_call (vls_cons (val_var hi) vls_nil) fun _ q => ⟨l, _, rfl, h, q⟩
def spRel (K : PySem.W.Frag) (c : Cs) (bs : Bytes) : Sp := fun vs H Q E => ∃ (r a : Addr) (b no : Bool) (p n : Nat), vs = [.ref r, .int (n : Int), .bl no] ∧ n ≤ 16 ∧ RS K c bs H r a b p ∧
  RR K c bs r a b (RepC c no) (bnd (numB 1 n p (bs.drop p)) fun l q u => relAt n l q u) H Q E
theorem scRel : FnScope ["reader", "leaves", "negated", "leaf", "side"] ["reader", "leaves", "negated"] (defScope sRel) := ⟨rfl, rfl, rfl, by decide +kernel, rfl, by decide +kernel, by decide +kernel⟩
/-- what stands behind a leaf, a side -/
structure Beh (P : Program) (w : World) (K : PySem.W.Frag) (mg : Str → Option Value) (base : Heap) (c : Cs) (bs : Bytes) (fL fS : Addr) (dL dS : FuncData) : Prop where
  gL : FnOk P w K mg base (CXx P w) 6 fL dL ["reader", "leaves", "negated", "leaf"] (spBL K c bs)
  gS : FnOk P w K mg base (CXx P w) 7 fS dS ["reader", "leaves", "negated", "side"] (spBS K c bs)
  bL : Binds K dL ["reader", "leaves", "negated", "leaf"] []
  bS : Binds K dS ["reader", "leaves", "negated", "side"] []
  kL : PySem.W.keepIn K (.ref fL) = true
  kS : PySem.W.keepIn K (.ref fS) = true
  mL : mg "read_behind_leaf" = some (.ref fL)
  mS : mg "read_behind_side" = some (.ref fS)
theorem ok_rel {f fB fS fF gN gL hL hS : Addr} {fd dB dS dF eN eL iL iS : FuncData} (F : Fun K "read_related" "read_related" sRel f fd) (T : Txt K mg c) (M : Small P w K mg base c bs fB fS fF dB dS dF)
    (R : Rds P w K mg base c bs gN gL eN eL) (BH : Beh P w K mg base c bs hL hS iL iS) : FnOk P w K mg base (CXx P w) 8 f fd ["reader", "leaves", "negated"] (spRel K c bs) := by
  refine F.okx scRel (fun vs H Q E h => ?_) (fun cdv A outer s H vs Q E hr h => ?_)
  · obtain ⟨r, a, b, no, p, n, rfl, _⟩ := h
    rfl
  · obtain ⟨r, a, b, no, p, n, rfl, hn, x, k⟩ := h
    have hr1 : Room 1 _ := hr.mono (by decide)
    have hr5 : Room 5 _ := hr.mono (by decide)
    have hr6 : Room 6 _ := hr.mono (by decide)
    refine ⟨_, pss_cons (ps_set (i := 3) scRel.nd rfl (Or.inl rfl) (pe_call R.gN hr5 rfl R.mN R.kN R.bN .nil pass_x (pa_cons (pv 0) (pa_cons pe_int (pa_cons (pv 1) pa_nil)))))
      (pss_cons (ps_if (pt_cmpR op_eq (pe_meth0 (pv 0) T.clR M.mB M.gB hr1 M.bB .nil pass_x) (pe_con0 T.cBLANK) (nomark _))
        (pss_one (ps_ret (pe_call BH.gL hr6 rfl BH.mL BH.kL BH.bL .nil pass_x (pa_cons (pv 0) (pa_cons (pv 1) (pa_cons (pv 2) (pa_cons (pv 3) pa_nil))))))) pss_nil)
      (pss_cons (ps_set (i := 4) scRel.nd rfl (Or.inl rfl) (pe_op op_add (pe_op op_mul pe_int (pv 3)) (pe_call R.gL hr5 rfl R.mL R.kL R.bL .nil pass_x (pa_cons (pv 0) pa_nil))))
      (pss_one (ps_ret (pe_call BH.gS hr rfl BH.mS BH.kS BH.bS .nil pass_x (pa_cons (pv 0) (pa_cons (pv 1) (pa_cons (pv 2) (pa_cons (pv 4) pa_nil))))))))), ?_⟩
    refine to_rn (lo := 1) (hi := n) x (vls_cons (val_var rfl) (vls_cons val_c (vls_cons (val_var rfl) vls_nil))) (k.seq (suf_numB x.le) fun l q v H' e h1 h2 hv x' kp k' => ?_)
    obtain rfl : v = .int (l : Int) := hv
    have hl := (numB_ok e).1
    unfold relAt at k'
    refine to_if (tst_eqI (val_byte x' rfl) val_c) (fun hb => ?_) fun hb => ?_
    · rw [decide_eq_true_iff] at hb
      rw [if_pos (hd_iff.mpr hb)] at k'
      exact to_call (vls_cons (val_var rfl) (vls_cons (val_var rfl) (vls_cons (val_var rfl) (vls_cons (val_var rfl) vls_nil)))) ⟨r, a, b, no, q, n, l, rfl, hl, x', k'⟩
    · rw [decide_eq_false_iff_not] at hb
      rw [if_neg (fun z => hb (hd_iff.mp z))] at k'
      refine to_next ?_
      dsimp only
      refine val_mul (i := 2) (j := (l : Int)) val_c (val_var rfl) (.inl ⟨by decide, by decide⟩) _ ?_
      refine to_rl x' (vls_cons (val_var rfl) vls_nil) (k'.seq (suf_letter x'.le) fun z q2 v H2 e2 h3 h4 hv x2 kp2 k2 => ?_)
      obtain rfl : v = .int (b2n z : Int) := hv
      refine ⟨_, _, rfl, rfl, ?_⟩
      refine to_call (vls_cons (val_var rfl) (vls_cons (val_var rfl) (vls_cons (val_var rfl) (vls_cons (val_var rfl) vls_nil)))) ⟨r, a, b, no, q2, n, ⟨l, z⟩, ?_, hn, x2, k2⟩
      rw [← key_int]
      rfl
def spRR (K : PySem.W.Frag) (c : Cs) (bs : Bytes) : Sp := fun vs H Q E => ∃ (r a : Addr) (b no : Bool) (p n : Nat), vs = [.ref r, .int (n : Int), .bl no] ∧ n ≤ 16 ∧ (byteAt bs p = 111 ∨ byteAt bs p = 104) ∧ RS K c bs H r a b p ∧
  RR K c bs r a b (RepC c no) (coreAt n p (bs.drop p)) H Q E
theorem scRR : FnScope ["reader", "leaves", "negated", "sign", "fewest", "told", "start", "part"] ["reader", "leaves", "negated"] (defScope sRR) := ⟨rfl, rfl, rfl, by decide +kernel, rfl, by decide +kernel, by decide +kernel⟩
/-- o and h in one -/
structure Ris (K : PySem.W.Frag) (c : Cs) (bs : Bytes) (r a : Addr) (b : Bool) (E : XK) (n p : Nat) (cc : UInt8) (α : Type) (rd : Nat → Bytes → Rd α) (key : α → Nat) (mk : List α → Core) (fw : Nat) : Prop where
  suf : ∀ q, q ≤ bs.length → Suf bs q (rd q (bs.drop q))
  pos : ∀ x q u q0, rd q0 (bs.drop q0) = .ok (x, q, u) → 0 < key x
  fw0 : 0 < fw
  fw2 : cc.toNat = 111 → fw = 2
  fw1 : cc.toNat ≠ 111 → fw = 1
  sg : ∀ xs, sgn (mk xs) = cc.toNat
  pr : ∀ xs, prt (mk xs) = xs.map key
  eq : coreAt n p (bs.drop p) = bnd (several rd key ((bs.drop (p + 1)).length + 1) fw 0 (p + 1) (bs.drop (p + 1))) fun l q u => .ok (mk l, q, u)
  rdg : (cc.toNat = 111 ∧ ∀ q H' Q1, RR K c bs r a b (isI fun x => (key x : Int)) (rd q (bs.drop q)) H' Q1 E → RR K c bs r a b (isI fun n : Nat => (n : Int)) (numB 1 n q (bs.drop q)) H' Q1 E) ∨
    (cc.toNat = 104 ∧ ∀ q H' Q1, RR K c bs r a b (isI fun x => (key x : Int)) (rd q (bs.drop q)) H' Q1 E → RR K c bs r a b (isI fun z : Side => (z.key : Int)) (sideAt n q (bs.drop q)) H' Q1 E)
theorem ris_mk {r a : Addr} {b : Bool} {E : XK} {n p : Nat} (hn : byteAt bs p = 111 ∨ byteAt bs p = 104) : ∃ cc, bs[p]? = some cc ∧ ∃ α rd key mk fw, Ris K c bs r a b E n p cc α rd key mk fw := by
  obtain ⟨cc, hc⟩ : ∃ cc, bs[p]? = some cc := by
    cases e : bs[p]? with
    | none => rw [byteAt_none e] at hn; omega
    | some cc => exact ⟨cc, rfl⟩
  refine ⟨cc, hc, ?_⟩
  rw [byteAt_some hc] at hn
  rcases hn with h | h
  · have h : cc.toNat = 111 := by omega
    have e : cc = 111 := u8_eq.mpr h
    refine ⟨Nat, leafAt n, fun x => x, Core.hole, 2, fun q hq => suf_leaf hq, fun x q u q0 z => (leaf_ok z).1, by decide, fun _ => rfl, fun z => absurd h z, fun xs => h.symm, fun xs => by simp [prt], ?_, .inl ⟨h, fun q H' Q1 z => ?_⟩⟩
    · rw [drop_cons hc, e]
      exact coreAt_hole
    · rw [leafAt_eq] at z
      exact z
  · have h : cc.toNat = 104 := by omega
    have e : cc = 104 := u8_eq.mpr h
    refine ⟨Side, sideAt n, Side.key, Core.hair, 1, fun q hq => suf_side hq, fun x q u q0 z => ?_, by decide, fun z => by omega, fun z => rfl, fun xs => h.symm, fun xs => rfl, ?_, .inr ⟨h, fun q H' Q1 z => z⟩⟩
    · have := (side_ok z).1
      rw [side_key]
      omega
    · rw [drop_cons hc, e]
      exact coreAt_hair
theorem to_part {σ : L2.St} {H : Hp} {r a : Addr} {b : Bool} {q n p fw : Nat} {E : XK} {Qc : VK} {cc : UInt8} {α : Type} {rd : Nat → Bytes → Rd α} {key : α → Nat} {mk : List α → Core} (Z : Ris K c bs r a b E n p cc α rd key mk fw) (hn : n ≤ 16) (x : RS K c bs H r a b q)
    (h0 : σ[0]? = some (some (.ref r))) (h1 : σ[1]? = some (some (.int (n : Int)))) (h3 : σ[3]? = some (some (.int (cc.toNat : Int)))) (k : RR K c bs r a b (isI fun x => (key x : Int)) (rd q (bs.drop q)) H Qc E) :
    tIf (tTest (tOp rEq (tVar 3) (tC (.int 111)))) (tCall (spRN K c bs) [] E (tCons (tVar 0) (tCons (tC (.int 1)) (tCons (tVar 1) tNil)))) (tCall (spRSd K c bs) [] E (tCons (tVar 0) (tCons (tVar 1) tNil))) σ H Qc := by
  refine to_ifE (tst_eqI (val_var h3) val_c) (fun hz => ?_) fun hz => ?_
  · rw [decide_eq_true_iff] at hz
    have hg := Z.rdg.resolve_right (fun z => by omega)
    exact to_rn (lo := 1) (hi := n) x (vls_cons (val_var h0) (vls_cons val_c (vls_cons (val_var h1) vls_nil))) (hg.2 _ _ _ k)
  · rw [decide_eq_false_iff_not] at hz
    have hg := Z.rdg.resolve_left (fun z => by omega)
    exact to_rs x hn (vls_cons (val_var h0) (vls_cons (val_var h1) vls_nil)) (hg.2 _ _ _ k)
theorem at_last {α : Type} {key : α → Nat} {xs : List α} (h : 0 < xs.length) : atI (nv (xs.map key)) (-1) = some (.int (lastKey key xs : Int)) := by
  obtain ⟨ys, z, rfl⟩ : ∃ ys z, xs = ys ++ [z] := ⟨xs.dropLast, xs.getLast (by intro e; rw [e] at h; cases h), (List.dropLast_concat_getLast _).symm⟩
  rw [lastKey_snoc, List.map_append]
  unfold nv
  rw [List.map_append]
  exact atI_last _ _
theorem lastKey_nil {α : Type} {key : α → Nat} {xs : List α} (h : ¬ 0 < xs.length) : lastKey key xs = 0 := by
  cases xs with
  | nil => rfl
  | cons y ys => exact absurd (Nat.succ_pos _) h
theorem ok_rr {f fB fS fF fN fU gN gL gS fM : Addr} {fd dB dS dF dN dU eN eL eS dM : FuncData} (F : Fun K "read_rising" "read_rising" sRR f fd) (T : Txt K mg c) (M : Small P w K mg base c bs fB fS fF dB dS dF) (G : Big P w K mg base c bs fN fU dN dU)
    (R : Rds P w K mg base c bs gN gL eN eL) (GS : FnOk P w K mg base (CXx P w) 6 gS eS ["reader", "leaves"] (spRSd K c bs)) (bS : Binds K eS ["reader", "leaves"] []) (kS : PySem.W.keepIn K (.ref gS) = true) (mS : mg "read_side" = some (.ref gS))
    (MF : FiM P w K mg base c fM dM) : FnOk P w K mg base (CXx P w) 7 f fd ["reader", "leaves", "negated"] (spRR K c bs) := by
  refine F.okx scRR (fun vs H Q E h => ?_) (fun cdv A outer s H vs Q E hr h => ?_)
  · obtain ⟨r, a, b, no, p, n, rfl, _⟩ := h
    rfl
  · obtain ⟨r, a, b, no, p, n, rfl, hn, hb, x, k⟩ := h
    obtain ⟨cc, hc, α, rd, key, mk, fw, Z⟩ := ris_mk (K := K) (c := c) (r := r) (a := a) (b := b) (E := E) (n := n) hb
    have hr1 : Room 1 _ := hr.mono (by decide)
    have hr2 : Room 2 _ := hr.mono (by decide)
    have hr3 : Room 3 _ := hr.mono (by decide)
    have hr4 : Room 4 _ := hr.mono (by decide)
    have hr5 : Room 5 _ := hr.mono (by decide)
    refine ⟨_, pss_cons (ps_set (i := 3) scRR.nd rfl (Or.inl rfl) (pe_meth (pv 0) T.clR G.mN G.gN hr4 G.bN .nil pass_x (pa_cons (pe_tup (pa_cons (pe_con0 T.cO) (pa_cons (pe_con0 T.cH) pa_nil))) pa_nil)))
      (pss_cons (ps_set (i := 4) scRR.nd rfl (Or.inl rfl) (pe_ifExp (pt_cmpR op_eq (pv 3) (pe_con0 T.cO) (nomark _)) pe_int pe_int))
      (pss_cons (ps_set (i := 5) scRR.nd rfl (Or.inl rfl) (pe_lst pa_nil))
      (pss_cons (ps_while passes_own_x (PW.pt (pw_or (pt_cmpR op_lt (pe_callB call_len_seq (by rfl) T.nolen PySem.boot_len (pa_cons (pv 5) pa_nil)) (pv 4) (nomark _)) (pw_or1 (pt_cmpR op_ne (pe_meth0 (pv 0) T.clR M.mB M.gB hr1 M.bB .nil pass_x) (pe_con0 T.cLF) (nomark _)))))
        (pss_cons (ps_expr (pe_meth (pv 0) T.clR G.mN G.gN hr4 G.bN .nil pass_x (pa_cons (pe_tup (pa_cons (pe_con0 T.cBLANK) pa_nil)) pa_nil)))
        (pss_cons (ps_set (i := 6) scRR.nd rfl (Or.inl rfl) (pe_fld (pv 0) rfl))
        (pss_cons (ps_set (i := 7) scRR.nd rfl (Or.inl rfl) (pe_ifExp (pt_cmpR op_eq (pv 3) (pe_con0 T.cO) (nomark _)) (pe_call R.gN hr5 rfl R.mN R.kN R.bN .nil pass_x (pa_cons (pv 0) (pa_cons pe_int (pa_cons (pv 1) pa_nil))))
          (pe_call GS hr rfl mS kS bS .nil pass_x (pa_cons (pv 0) (pa_cons (pv 1) pa_nil)))))
        (pss_cons (ps_if (PW.pt (pw_and (pt_cmpR op_gt (pe_callB call_len_seq (by rfl) T.nolen PySem.boot_len (pa_cons (pv 5) pa_nil)) pe_int (nomark _)) (pw_and1 (pt_cmpR op_le (pv 7) (pe_ix ix_list (pv 5) (pe_un un_neg pe_int) (fun _ _ => rfl)) (nomark _)))))
          (pss_one (ps_expr (pe_meth (pv 0) T.clR M.mF M.gF hr3 M.bF .nil pass_x (pa_cons (pv 6) pa_nil)))) pss_nil)
        (pss_one (ps_expr (pe_bm PySem.F.plainAttrs_list PySem.F.slot_list_append PySem.F.type_list_append mt_append (pv 5) (pa_cons (pv 7) pa_nil)))))))))
      (pss_one (ps_ret (pe_make MF.M MF.G hr2 rfl T.mgFi MF.b .nil pass_x (pa_cons (pv 2) (pa_cons (pv 3) (pa_cons (pe_callTy call_tuple_of (by rfl) T.notup PyProof.Rows.boot_tuple (pa_cons (pv 5) pa_nil)) pa_nil)))))))))
, ?_⟩
    have hcc : cc.toNat = 111 ∨ cc.toNat = 104 := by
      rw [byteAt_some hc] at hb
      omega
    -- sign
    refine to_need (cs := [111, 104]) x rfl (vls_cons val_c (vls_cons val_c vls_nil)) (by decide) ?_
    rw [need_at, hc]
    dsimp only
    rw [if_pos (by simpa using hcc)]
    intro v H1 hv x1 kp1
    obtain rfl : v = .int (cc.toNat : Int) := hv
    -- fewest
    refine to_set (v := .int (fw : Int)) (val_if (tst_eqI (val_var rfl) val_c) (fun h => ?_) fun h => ?_) ?_
    · rw [decide_eq_true_iff] at h
      rw [Z.fw2 (by omega)]
      exact val_c
    · rw [decide_eq_false_iff_not] at h
      rw [Z.fw1 (by omega)]
      exact val_c
    -- told
    refine ⟨Nat.zero_le _, fun l nl => ?_⟩
    have hl0 : H l = none := by
      cases e : H l with
      | none => rfl
      | some o =>
        by_cases z : l = r
        · obtain ⟨_, ho⟩ := x1.obj
          rw [z, ho] at nl
          cases nl
        · rw [kp1 l o e z] at nl
          cases nl
    have x2 := x1.new (o := .lst []) nl
    rw [Z.eq, ← sevFrom_start rd key fw _ (p + 1) (bs.drop (p + 1)) Z.fw0] at k
    refine to_while (fun m σ' H' => ∃ (xs : List α) (q : Nat) (v6 v7 : Option V), σ' = [some (.ref r), some (.int (n : Int)), some (.bl no), some (.int (cc.toNat : Int)), some (.int (fw : Int)), some (.ref l), v6, v7] ∧
      H' l = some (.lst (nv (xs.map key))) ∧ bs.length - q + 1 ≤ m ∧ xs.length ≤ q ∧ RS K c bs H' r a b q ∧ Keep r H H' ∧
      RR K c bs r a b (RepC c no) (bnd (sevFrom rd key fw m xs q (bs.drop q)) fun l q u => .ok (mk l, q, u)) H Q E)
      ⟨[], p + 1, none, none, rfl, upd_same, by rw [List.length_drop]; exact Nat.le_refl _, Nat.zero_le _, x2, kp1.trans (keep_new nl), k⟩ ?_
    rintro m σ' H' ⟨xs, q, v6, v7, rfl, hl, hm, hq, x', kp, k'⟩
    have hlen : (nv (xs.map key)).length = xs.length := by rw [len_nv, List.length_map]
    refine ⟨_, tst_or (tst_i (val_len rfl (.inl (SqL.of hl))) (val_var rfl)) fun _ => tst_neI (val_byte x' rfl) val_c, fun ht => ?_, fun ht => ?_⟩
    · have hcond : ¬ (fw ≤ xs.length ∧ (bs.drop q).head? = some 10) := by
        rw [hd_iff]
        rw [Bool.or_eq_true, decide_eq_true_iff, Bool.not_eq_true', decide_eq_false_iff_not, hlen] at ht
        rintro ⟨z1, z2⟩
        rcases ht with ht | ht
        · omega
        · exact ht z2
      obtain ⟨m, rfl⟩ : ∃ m', m = m' + 1 := ⟨m - 1, by omega⟩
      rw [sevFrom_step _ _ _ _ _ _ _ hcond, second_bnd, charAt_bnd, bnd_bnd, bnd_bnd, bnd_bnd] at k'
      refine to_need (cs := [32]) x' rfl (vls_cons val_c vls_nil) (by decide) (RR.seq0 (suf_need x'.le) kp k' fun c1 q1 w1 H3 e1 g1 g2 hv1 x3 kp3 k3 => ?_)
      simp only [bnd_ok, bnd_bnd] at k3
      refine to_set (val_place T x3 rfl) ?_
      have hl3 := kp3 _ _ hl (fun z => by obtain ⟨_, ho⟩ := x'.obj; rw [z, ho] at hl; cases hl)
      have kp03 := kp.trans kp3
      refine to_part Z hn x3 rfl rfl rfl (RR.seq0 (Z.suf q1 g2) kp03 k3 fun y q2 v4 H4 e2 g3 g4 hv2 x4 kp4 k4 => ?_)
      obtain rfl : v4 = .int (key y : Int) := hv2
      obtain ⟨d4, ho4⟩ := x4.obj
      have hl4 := kp4 _ _ hl3 (fun z => by obtain ⟨_, ho⟩ := x3.obj; rw [z, ho] at hl3; cases hl3)
      have nlr : r ≠ l := ne_of ho4 hl4 (by intro z; cases z)
      have kp04 := kp03.trans kp4
      refine to_if (tst_and (d := decide ((key y : Int) ≤ (lastKey key xs : Int))) (tst_i (val_len rfl (.inl (SqL.of hl4))) val_c) fun hz => tst_i (val_var rfl) (val_op (x := .ref l) (y := .int (-1)) (val_var rfl) (fun Q q => ⟨1, rfl, q⟩) fun Q q => ⟨l, _, _, _, rfl, rfl, SqL.of hl4, at_last (by rw [decide_eq_true_iff, hlen] at hz; omega), q⟩)) (fun hz => ?_) fun hz => ?_
      · rw [Bool.and_eq_true, decide_eq_true_iff, decide_eq_true_iff] at hz
        rw [if_neg (by rw [decide_eq_true_iff]; omega), bnd_err] at k4
        exact to_fail x4 rfl (val_var rfl) (k4.shift kp04)
      · rw [Bool.and_eq_false_iff, decide_eq_false_iff_not, decide_eq_false_iff_not, hlen] at hz
        have hfine : lastKey key xs < key y := by
          by_cases z : 0 < xs.length
          · rcases hz with hz | hz <;> omega
          · rw [lastKey_nil z]
            exact Z.pos y q2 _ q1 e2
        rw [if_pos (decide_eq_true hfine), bnd_ok] at k4
        refine to_next ?_
        dsimp only
        refine ⟨_, rfl, .inl ⟨rfl, _, SqL.of hl4⟩, _, rfl, l, _, _, rfl, rfl, hl4, ?_, ?_⟩
        · rw [hlen]
          have := x4.sz
          have := x'.le
          exact Nat.lt_of_le_of_lt (by omega : xs.length ≤ 16384) (by decide)
        · have kpN : ∀ o, Keep r H (upd H4 l o) := fun o z u h n => by rw [upd_ne (ne_of_none h hl0)]; exact kp04 z u h n
          refine ⟨m, by omega, xs ++ [y], q2, some (.int (q1 : Int)), some (.int (key y : Int)), rfl, ?_, by omega, ?_, x.at_ (kpN _) ⟨d4, by rw [upd_ne nlr]; exact ho4⟩ x4.le, kpN _, k4⟩
          · rw [upd_same]
            unfold nv
            simp
          · rw [List.length_append, List.length_singleton]
            omega
    · rw [Bool.or_eq_false_iff, decide_eq_false_iff_not, Bool.not_eq_false', decide_eq_true_iff, hlen] at ht
      unfold sevFrom at k'
      rw [if_pos ⟨by omega, hd_iff.mpr ht.2⟩, bnd_ok] at k'
      refine ⟨_, rfl, _, rfl, _, rfl, l, _, rfl, .inl ⟨SqL.of hl, fun y ny => fun z dz nz nd ne => ?_⟩⟩
      refine ⟨z, dz, no, _, y, rfl, upd_same, fun H5 hx kp5 => ⟨rfl, ?_⟩⟩
      have s0 : Same H' (upd H' y (.tup (nv (xs.map key)))) := fun b u h => by rw [upd_ne (ne_of_none h ny)]; exact h
      have s1 := Same.made nz nd kp5
      refine k' _ _ ⟨z, dz, y, rfl, ?_, ?_⟩ (x'.same (s0.trans s1)) (kp.trans (.same (s0.trans s1)))
      · rw [Z.sg]
        exact hx
      · rw [Z.pr]
        exact s1 _ _ upd_same
end
end Desk
end
section
set_option Elab.async false
set_option linter.all false
set_option maxRecDepth 100000
namespace Desk
open PySem PySem.Spec PyProof.Rows L2
open Quire (Bytes)
open QuireSeen (Rd number Side letterAt sideAt charAt coreAt ofLeaf ofSide Core Finding Findings findingAt leafAt several findingsAt readFindings LEAVES FINDINGS)
def RepF (c : Cs) : Finding → V → Hp → Prop := fun f v H => RepC c f.no f.core v H
theorem val_eqI {σ : L2.St} {H : Hp} {ta tb : TE} {i j : Int} (ha : Val ta σ H (.int i)) (hb : Val tb σ H (.int j)) : Val (tOp rEq ta tb) σ H (.bl (decide (i = j))) :=
  val_op ha hb fun _ q => ⟨rfl, by rw [dec_int, Bool.beq_eq_decide_eq]; exact q⟩
section
variable {P : Program} {w : World} {K : PySem.W.Frag} {mg : Str → Option Value} {base : Heap} {c : Cs} {bs : Bytes}
/-- if z in (..) -/
theorem to_ifIn {σ : L2.St} {H : Hp} {ta : TE} {tt : TA} {t u : TS} {D : Ends} {z : Int} {cs : List Nat} (ha : Val ta σ H (.int z)) (hs : Vls tt σ H (cs.map fun n : Nat => V.int (n : Int))) (hz : cs.length ≤ 1000)
    (h1 : ∀ al, H al = none → (∃ n ∈ cs, (n : Int) = z) → t D σ (upd H al (.tup (cs.map fun n : Nat => V.int (n : Int))))) (h2 : ∀ al, H al = none → (¬ ∃ n ∈ cs, (n : Int) = z) → u D σ (upd H al (.tup (cs.map fun n : Nat => V.int (n : Int))))) :
    tIfS (tTest (tOp (rIn K false) ta (tTup tt))) t u D σ H := by
  refine ha _ (hs _ ⟨by rw [List.length_map]; exact Nat.le_of_lt (small1000 hz), fun al n => ⟨al, _, rfl, .inr (SqT.of upd_same), rfl, flat_ints cs, _, rfl, ?_⟩⟩)
  show if (if false = true then !inV (V.int z) _ else inV (V.int z) _) = true then _ else _
  rw [if_neg Bool.false_ne_true, inV_ints]
  by_cases q : ∃ n ∈ cs, (n : Int) = z
  · rw [decide_eq_true q, if_pos rfl]
    exact h1 al n q
  · rw [decide_eq_false q, if_neg Bool.false_ne_true]
    exact h2 al n q
structure Two (P : Program) (w : World) (K : PySem.W.Frag) (mg : Str → Option Value) (base : Heap) (c : Cs) (bs : Bytes) (fR fL : Addr) (dR dL : FuncData) : Prop where
  gR : FnOk P w K mg base (CXx P w) 7 fR dR ["reader", "leaves", "negated"] (spRR K c bs)
  gL : FnOk P w K mg base (CXx P w) 8 fL dL ["reader", "leaves", "negated"] (spRel K c bs)
  bR : Binds K dR ["reader", "leaves", "negated"] []
  bL : Binds K dL ["reader", "leaves", "negated"] []
  kR : PySem.W.keepIn K (.ref fR) = true
  kL : PySem.W.keepIn K (.ref fL) = true
  mR : mg "read_rising" = some (.ref fR)
  mL : mg "read_related" = some (.ref fL)
def spRF (K : PySem.W.Frag) (c : Cs) (bs : Bytes) : Sp := fun vs H Q E => ∃ (r a : Addr) (b : Bool) (p n : Nat), vs = [.ref r, .int (n : Int)] ∧ n ≤ 16 ∧ RS K c bs H r a b p ∧ RR K c bs r a b (RepF c) (findingAt n p (bs.drop p)) H Q E
theorem scRF : FnScope ["reader", "leaves", "negated", "finding"] ["reader", "leaves"] (defScope sRF) := ⟨rfl, rfl, rfl, by decide +kernel, rfl, by decide +kernel, by decide +kernel⟩
theorem rf_tail {H : Hp} {D : Ends} {r a : Addr} {b no : Bool} {q n : Nat} {E : XK} (x : RS K c bs H r a b q) (hn : n ≤ 16) (k : RR K c bs r a b (RepF c) (lineAt n no q (bs.drop q)) H D.rt E) :
    tSeq (tIfS (tTest (tOp (rIn K false) (tMeth c.R "byte" (spByte K c bs) [] E (tVar 0) tNil) (tTup (tCons (tC (.int 111)) (tCons (tC (.int 104)) tNil))))) (tAsg (tCall (spRR K c bs) [] E (tCons (tVar 0) (tCons (tVar 1) (tCons (tVar 2) tNil)))) (gName 3))
      (tAsg (tCall (spRel K c bs) [] E (tCons (tVar 0) (tCons (tVar 1) (tCons (tVar 2) tNil)))) (gName 3)))
      (tSeq (tDrop (tMeth c.R "need" (spNeed K c bs) [] E (tVar 0) (tCons (tTup (tCons (tC (.int 10)) tNil)) tNil))) (tRet (tVar 3))) D [some (.ref r), some (.int (n : Int)), some (.bl no), none] H := by
  have go : ∀ al (o : HO), H al = none → ∀ Q1 : VK, Q1 = (fun v H1 => tSeq (tDrop (tMeth c.R "need" (spNeed K c bs) [] E (tVar 0) (tCons (tTup (tCons (tC (.int 10)) tNil)) tNil))) (tRet (tVar 3)) D [some (.ref r), some (.int (n : Int)), some (.bl no), some v] H1) →
      RR K c bs r a b (RepC c no) (coreAt n q (bs.drop q)) (upd H al o) Q1 E := by
    intro al o nl Q1 eQ
    subst eQ
    unfold lineAt at k
    refine (k.shift (keep_new nl)).seq (suf_core x.le) fun oc q2 v H2 e h1 h2 hv x2 kp2 k2 => ?_
    rw [charAt_bnd, bnd_bnd] at k2
    refine to_need (cs := [10]) x2 rfl (vls_cons val_c vls_nil) (by decide) (k2.seq (suf_need x2.le) fun c3 q3 v3 H3 e3 _ g3 hv3 x3 kp3 k3 => ?_)
    rw [bnd_ok] at k3
    obtain ⟨dr, ho⟩ := x2.obj
    exact to_ret (val_var rfl) (k3.ok (hv.keep kp3 ho) x3)
  refine to_ifIn (cs := [111, 104]) (val_byte x rfl) (vls_cons val_c (vls_cons val_c vls_nil)) (by decide) (fun al nl hz => ?_) fun al nl hz => ?_
  · refine to_call (vls_cons (val_var rfl) (vls_cons (val_var rfl) (vls_cons (val_var rfl) vls_nil))) ⟨r, a, b, no, q, n, rfl, hn, ?_, x.new nl, go al _ nl _ rfl⟩
    obtain ⟨z, hm, e⟩ := hz
    simp only [List.mem_cons, List.not_mem_nil, or_false] at hm
    omega
  · refine to_call (vls_cons (val_var rfl) (vls_cons (val_var rfl) (vls_cons (val_var rfl) vls_nil))) ⟨r, a, b, no, q, n, rfl, hn, x.new nl, ?_⟩
    rw [← coreAt_rel]
    · exact go al _ nl _ rfl
    · exact fun z => hz ⟨111, by simp, (hd_iff.mp z).symm⟩
    · exact fun z => hz ⟨104, by simp, (hd_iff.mp z).symm⟩
theorem ok_rf {f fB fS fF fN fU fR fL : Addr} {fd dB dS dF dN dU dR dL : FuncData} (F : Fun K "read_finding" "read_finding" sRF f fd) (T : Txt K mg c) (M : Small P w K mg base c bs fB fS fF dB dS dF) (G : Big P w K mg base c bs fN fU dN dU)
    (W : Two P w K mg base c bs fR fL dR dL) : FnOk P w K mg base (CXx P w) 9 f fd ["reader", "leaves"] (spRF K c bs) := by
  refine F.okx scRF (fun vs H Q E h => ?_) (fun cdv A outer s H vs Q E hr h => ?_)
  · obtain ⟨r, a, b, p, n, rfl, _⟩ := h
    rfl
  · obtain ⟨r, a, b, p, n, rfl, hn, x, k⟩ := h
    have hr1 : Room 1 _ := hr.mono (by decide)
    have hr4 : Room 4 _ := hr.mono (by decide)
    have hr7 : Room 7 _ := hr.mono (by decide)
    refine ⟨_, pss_cons (ps_set (i := 2) scRF.nd rfl (Or.inl rfl) (pe_cmpR op_eq (pe_meth0 (pv 0) T.clR M.mB M.gB hr1 M.bB .nil pass_x) (pe_con0 T.cBANG) (nomark _)))
      (pss_cons (ps_if (pt_val (pv 2)) (pss_cons (ps_expr (pe_meth0 (pv 0) T.clR M.mS M.gS hr1 M.bS .nil pass_x)) (pss_one (ps_expr (pe_meth (pv 0) T.clR G.mN G.gN hr4 G.bN .nil pass_x (pa_cons (pe_tup (pa_cons (pe_con0 T.cBLANK) pa_nil)) pa_nil))))) pss_nil)
      (pss_cons (ps_if (pt_cmpR op_in_seq (pe_meth0 (pv 0) T.clR M.mB M.gB hr1 M.bB .nil pass_x) (pe_tup (pa_cons (pe_con0 T.cO) (pa_cons (pe_con0 T.cH) pa_nil))) (by with_unfolding_all rfl))
        (pss_one (ps_set (i := 3) scRF.nd rfl (Or.inl rfl) (pe_call W.gR hr7 rfl W.mR W.kR W.bR .nil pass_x (pa_cons (pv 0) (pa_cons (pv 1) (pa_cons (pv 2) pa_nil))))))
        (pss_one (ps_set (i := 3) scRF.nd rfl (Or.inl rfl) (pe_call W.gL hr rfl W.mL W.kL W.bL .nil pass_x (pa_cons (pv 0) (pa_cons (pv 1) (pa_cons (pv 2) pa_nil)))))))
      (pss_cons (ps_expr (pe_meth (pv 0) T.clR G.mN G.gN hr4 G.bN .nil pass_x (pa_cons (pe_tup (pa_cons (pe_con0 T.cLF) pa_nil)) pa_nil)))
      (pss_one (ps_ret (pv 3)))))), ?_⟩
    obtain ⟨no, hno⟩ : ∃ no, no = decide (byteAt bs p = 33) := ⟨_, rfl⟩
    refine to_set (v := .bl no) (by rw [hno]; exact val_eqI (val_byte x rfl) val_c) ?_
    refine to_if (tst_bl (val_var rfl)) (fun hz => ?_) fun hz => ?_
    rotate_left
    · have hb : byteAt bs p ≠ 33 := by rw [hz] at hno; exact of_decide_eq_false hno.symm
      rw [findingAt_yes (fun z => hb (hd_iff.mp z)), ← hz] at k
      refine to_next ?_
      dsimp only
      exact rf_tail x hn k
    · have hb : byteAt bs p = 33 := by rw [hz] at hno; exact of_decide_eq_true hno.symm
      obtain ⟨cc, hc⟩ : ∃ cc, bs[p]? = some cc := by
        cases e : bs[p]? with
        | none => rw [byteAt_none e] at hb; omega
        | some cc => exact ⟨cc, rfl⟩
      have ec : cc = 33 := by
        rw [byteAt_some hc] at hb
        exact u8_eq.mpr (by show cc.toNat = 33; omega)
      rw [drop_cons hc, ec, findingAt_no, charAt_bnd, bnd_bnd] at k
      refine to_step x rfl fun dx ho => ?_
      refine to_need (cs := [32]) (x.step hc) rfl (vls_cons val_c vls_nil) (by decide) ((k.shift .set).seq (suf_need (x.step hc (dx := dx)).le) fun c3 q3 v3 H3 e3 _ g3 hv3 x3 kp3 k3 => ?_)
      rw [bnd_ok, ← hz] at k3
      exact rf_tail x3 hn k3
/-! ### all findings -/
def sf (n : Nat) (l : Addr) : List (Str × V) := [("leaves", .int (n : Int)), ("findings", .ref l)]
theorem sf_leaves (n : Nat) (l : Addr) : (sf n l).lookup ("leaves" : Str) = some (.int (n : Int)) := by
  simp only [sf, List.lookup, beq_self_eq_true]
theorem sf_findings (n : Nat) (l : Addr) : (sf n l).lookup ("findings" : Str) = some (.ref l) := by
  have e : (("findings" : Str) == ("leaves" : Str)) = false := by decide +kernel
  simp only [sf, List.lookup, e, beq_self_eq_true]
theorem sf_make (n : Nat) (l : Addr) : putF "findings" (.ref l) (putF "leaves" (.int (n : Int)) []) = sf n l := by
  have e : ¬ (("leaves" : Str) = ("findings" : Str)) := by decide +kernel
  simp only [sf, putF, if_neg e]
def RepL (c : Cs) (fs : List Finding) (vs : List V) (H : Hp) : Prop := vs.length = fs.length ∧ ∀ (i : Nat) (f : Finding), fs[i]? = some f → ∃ v, vs[i]? = some v ∧ RepF c f v H
def RepS (c : Cs) (F : Findings) (v : V) (H : Hp) : Prop := ∃ x dx l vs, v = .ref x ∧ H x = some (.ins c.S dx (sf F.n l)) ∧ H l = some (.lst vs) ∧ RepL c F.l vs H
theorem RepL.keep {r a dr : Addr} {b : Bool} {p : Nat} {fs : List Finding} {vs : List V} {H H' : Hp} (h : RepL c fs vs H) (k : Keep r H H') (hr : H r = some (.ins c.R dr (rf a b p))) : RepL c fs vs H' :=
  ⟨h.1, fun i f e => let ⟨v, h1, h2⟩ := h.2 i f e; ⟨v, h1, h2.keep k hr⟩⟩
theorem RepL.same {fs : List Finding} {vs : List V} {H H' : Hp} (h : RepL c fs vs H) (k : Same H H') : RepL c fs vs H' :=
  ⟨h.1, fun i f e => let ⟨v, h1, h2⟩ := h.2 i f e; ⟨v, h1, RepC.same h2 k⟩⟩
theorem RepC.upd_lst {no : Bool} {o : Core} {v : V} {H : Hp} {l : Addr} {xs ys : List V} (h : RepC c no o v H) (hl : H l = some (.lst xs)) : RepC c no o v (upd H l (.lst ys)) := by
  obtain ⟨x, dx, y, e, h1, h2⟩ := h
  exact ⟨x, dx, y, e, by rw [upd_ne (ne_of h1 hl (by intro z; cases z))]; exact h1, by rw [upd_ne (ne_of h2 hl (by intro z; cases z))]; exact h2⟩
theorem RepL.snoc {fs : List Finding} {f : Finding} {vs ys : List V} {v : V} {H : Hp} {l : Addr} {xs : List V} (h : RepL c fs vs H) (hf : RepF c f v H) (hl : H l = some (.lst xs)) : RepL c (fs ++ [f]) (vs ++ [v]) (upd H l (.lst ys)) := by
  refine ⟨by simp [h.1], fun i g e => ?_⟩
  by_cases hi : i < fs.length
  · rw [List.getElem?_append_left hi] at e
    obtain ⟨u, h1, h2⟩ := h.2 i g e
    exact ⟨u, by rw [List.getElem?_append_left (by rw [h.1]; exact hi)]; exact h1, RepC.upd_lst h2 hl⟩
  · have hi2 : i = fs.length := by
      have := (List.getElem?_eq_some_iff.mp e).1
      rw [List.length_append, List.length_singleton] at this
      omega
    subst hi2
    rw [List.getElem?_append_right (Nat.le_refl _), Nat.sub_self] at e
    cases e
    exact ⟨v, by rw [List.getElem?_append_right (by rw [h.1]; exact Nat.le_refl _), h.1, Nat.sub_self]; rfl, RepC.upd_lst hf hl⟩
def spSInit (c : Cs) : Sp := fun vs H Q _ => ∃ x dx n l, vs = [.ref x, .int ((n : Nat) : Int), .ref l] ∧ H x = some (.ins c.S dx []) ∧ ∀ H', H' x = some (.ins c.S dx (sf n l)) → Keep x H H' → Q .non H'
theorem scSI : FnScope ["self", "leaves", "findings"] ["self", "leaves", "findings"] (defScope sSeInit) := ⟨rfl, rfl, rfl, by decide +kernel, rfl, by decide +kernel, by decide +kernel⟩
theorem ok_seinit {f : Addr} {fd : FuncData} (F : Fun K "__init__" "Seen.__init__" sSeInit f fd) (T : Txt K mg c) : FnOk P w K mg base (CXx P w) 1 f fd ["self", "leaves", "findings"] (spSInit c) := by
  refine F.okx scSI (fun vs H Q E h => ?_) (fun cdv A outer s H vs Q E hr h => ?_)
  · obtain ⟨x, dx, n, l, rfl, _⟩ := h
    rfl
  · obtain ⟨x, dx, n, l, rfl, ho, k⟩ := h
    refine ⟨_, pss_cons (ps_fld (pv 0) (pv 1) rfl) (pss_one (ps_fld (pv 0) (pv 2) rfl)), ?_⟩
    refine ⟨_, rfl, _, rfl, x, c.S, dx, _, rfl, ho, T.clS, T.nLv, (by show 0 < 1000; decide), ?_⟩
    refine ⟨_, rfl, _, rfl, x, c.S, dx, _, rfl, upd_same, T.clS, T.nFs, (by show 1 < 1000; decide), ?_⟩
    refine k _ (upd_same.trans ?_) fun x o h n => by rw [upd_ne n, upd_ne n]; exact h
    exact congrArg (fun q => some (HO.ins c.S dx q)) (sf_make n l)
/-! ### a text that is too long -/
def spShort (K : PySem.W.Frag) (c : Cs) : Sp := fun vs H Q E => ∃ (a : Addr) (bs : Bytes), vs = [.ref a] ∧ SqL K H a (tx bs) ∧ (bs.length ≤ 8192 → Q .non H) ∧ (8192 < bs.length → ∀ dx H', Ans H' dx [-2] → Same H H' → E (.ref c.L) (some dx) H')
theorem scSh : FnScope ["text"] ["text"] (defScope sShort) := ⟨rfl, rfl, rfl, by decide +kernel, rfl, by decide +kernel, by decide +kernel⟩
theorem ok_short {f fL : Addr} {fd dL : FuncData} (F : Fun K "need_short" "need_short" sShort f fd) (T : Txt K mg c) (ML : XMk K c.L fL) (GL : FnOk P w K mg base (CXx P w) 1 fL dL ["self"] (spTInit c.L (-2))) (bL : Binds K dL ["self"] []) :
    FnOk P w K mg base (CXx P w) 3 f fd ["text"] (spShort K c) := by
  refine F.okx scSh (fun vs H Q E h => ?_) (fun cdv A outer s H vs Q E hr h => ?_)
  · obtain ⟨a, bs, rfl, _⟩ := h
    rfl
  · obtain ⟨a, bs, rfl, ha, k1, k2⟩ := h
    refine ⟨_, pss_one (ps_if (pt_cmpR op_gt (pe_callB call_len_seq (by rfl) T.nolen PySem.boot_len (pa_cons (pv 0) pa_nil)) (pe_con0 T.cBYTES) (nomark _)) (pss_one (ps_raise0 ML GL hr rfl T.mgL bL)) pss_nil), ?_⟩
    refine to_if (tst_i (val_len rfl (.inl ha)) val_c) (fun hz => ?_) fun hz => ?_
    · rw [decide_eq_true_iff, tx_len] at hz
      exact ⟨by show 0 ≤ 1000; decide, raised0 (k2 (by omega))⟩
    · rw [decide_eq_false_iff_not, tx_len] at hz
      exact k1 (by omega)
end
end Desk
end
section
set_option Elab.async false
set_option linter.all false
set_option maxRecDepth 100000
namespace Desk
open PySem PySem.Spec PyProof.Rows L2
open Quire (Bytes)
open QuireSeen (Rd number Side letterAt sideAt charAt coreAt ofLeaf ofSide Core Finding Findings findingAt leafAt several findingsAt readFindings LEAVES FINDINGS)
theorem same_keep {r : Addr} {H H1 H2 : Hp} (s : Same H H1) (n : H r = none) (k : Keep r H1 H2) : Same H H2 := fun x o h => k x o (s x o h) (ne_of_none h n)
section
variable {P : Program} {w : World} {K : PySem.W.Frag} {mg : Str → Option Value} {base : Heap} {c : Cs}
/-- what the reading of findings comes to -/
def RF (c : Cs) (res : Except Nat Findings) (H : Hp) (Q : VK) (E : XK) : Prop := match res with
  | .error e => ∀ dx H', Ans H' dx [-6, (e : Int)] → Same H H' → E (.ref c.F) (some dx) H'
  | .ok F => ∀ v H', RepS c F v H' → Same H H' → Q v H'
def spRFs (K : PySem.W.Frag) (c : Cs) : Sp := fun vs H Q E => ∃ (a : Addr) (bs : Bytes), vs = [.ref a] ∧ SqL K H a (tx bs) ∧ bs.length ≤ 16384 ∧ RF c (readFindings bs) H Q E
theorem scRFs : FnScope ["text", "reader", "leaves", "findings"] ["text"] (defScope sRFs) := ⟨rfl, rfl, rfl, by decide +kernel, rfl, by decide +kernel, by decide +kernel⟩
def inF (n : Nat) (r : Except Nat (List Finding)) : Except Nat Findings := match r with
  | .error e => .error e
  | .ok l => .ok ⟨n, l⟩
theorem byte_end {bs : Bytes} {q : Nat} (hq : q ≤ bs.length) : byteAt bs q = -1 ↔ bs.drop q = [] := by
  cases h : bs[q]? with
  | none => rw [byteAt_none h, drop_nil h]; simp
  | some cc =>
    rw [byteAt_some h, drop_cons h]
    constructor
    · intro z
      omega
    · intro z
      cases z
theorem ok_rfs {f fB fS fF fN fU gN gL fX fI fJ : Addr} {fd dB dS dF dN dU eN eL dX dI dJ : FuncData} (F : Fun K "read_findings" "read_findings" sRFs f fd) (T : Txt K mg c) (M : ∀ bs, Small P w K mg base c bs fB fS fF dB dS dF) (G : ∀ bs, Big P w K mg base c bs fN fU dN dU)
    (R : ∀ bs, Rds P w K mg base c bs gN gL eN eL) (gX : ∀ bs, FnOk P w K mg base (CXx P w) 9 fX dX ["reader", "leaves"] (spRF K c bs)) (bX : Binds K dX ["reader", "leaves"] []) (kX : PySem.W.keepIn K (.ref fX) = true) (mX : mg "read_finding" = some (.ref fX))
    (MR : Mk K c.R fI) (GI : FnOk P w K mg base (CXx P w) 1 fI dI ["self", "text", "of_book"] (spRInit c.R)) (bI : Binds K dI ["self", "text", "of_book"] [])
    (MS : Mk K c.S fJ) (GJ : FnOk P w K mg base (CXx P w) 1 fJ dJ ["self", "leaves", "findings"] (spSInit c)) (bJ : Binds K dJ ["self", "leaves", "findings"] []) : FnOk P w K mg base (CXx P w) 10 f fd ["text"] (spRFs K c) := by
  refine F.okx scRFs (fun vs H Q E h => ?_) (fun cdv A outer s H vs Q E hr h => ?_)
  · obtain ⟨a, bs, rfl, _⟩ := h
    rfl
  · obtain ⟨a, bs, rfl, ha, hsz, k⟩ := h
    have hr1 : Room 1 _ := hr.mono (by decide)
    have hr2 : Room 2 _ := hr.mono (by decide)
    have hr3 : Room 3 _ := hr.mono (by decide)
    have hr4 : Room 4 _ := hr.mono (by decide)
    have hr5 : Room 5 _ := hr.mono (by decide)
    refine ⟨_, pss_cons (ps_set (i := 1) scRFs.nd rfl (Or.inl rfl) (pe_make MR GI hr2 rfl T.mgR bI .nil pass_x (pa_cons (pv 0) (pa_cons pe_bl pa_nil))))
      (pss_cons (ps_set (i := 2) scRFs.nd rfl (Or.inl rfl) (pe_call (R bs).gN hr5 rfl (R bs).mN (R bs).kN (R bs).bN .nil pass_x (pa_cons (pv 1) (pa_cons pe_int (pa_cons (pe_con0 T.cLEAVES) pa_nil)))))
      (pss_cons (ps_expr (pe_meth (pv 1) T.clR (G bs).mN (G bs).gN hr4 (G bs).bN .nil pass_x (pa_cons (pe_tup (pa_cons (pe_con0 T.cLF) pa_nil)) pa_nil)))
      (pss_cons (ps_set (i := 3) scRFs.nd rfl (Or.inl rfl) (pe_lst pa_nil))
      (pss_cons (ps_while passes_own_x (pt_cmpR op_ne (pe_meth0 (pv 1) T.clR (M bs).mB (M bs).gB hr1 (M bs).bB .nil pass_x) (pe_con0 T.cEND) (nomark _))
        (pss_cons (ps_if (pt_cmpR op_eq (pe_callB call_len_seq (by rfl) T.nolen PySem.boot_len (pa_cons (pv 3) pa_nil)) (pe_con0 T.cFINDINGS) (nomark _))
          (pss_one (ps_expr (pe_meth (pv 1) T.clR (M bs).mF (M bs).gF hr3 (M bs).bF .nil pass_x (pa_cons (pe_fld (pv 1) rfl) pa_nil)))) pss_nil)
        (pss_one (ps_expr (pe_bm PySem.F.plainAttrs_list PySem.F.slot_list_append PySem.F.type_list_append mt_append (pv 3) (pa_cons (pe_call (gX bs) hr rfl mX kX bX .nil pass_x (pa_cons (pv 1) (pa_cons (pv 2) pa_nil))) pa_nil))))))
      (pss_one (ps_ret (pe_make MS GJ hr2 rfl T.mgS bJ .nil pass_x (pa_cons (pv 2) (pa_cons (pv 3) pa_nil))))))))), ?_⟩
    -- reader = Reader(text, False)
    refine ⟨_, rfl, fun r dr nr nd ne => ⟨r, dr, a, false, rfl, upd_same, fun H1 ho1 kp1 => ⟨rfl, ?_⟩⟩⟩
    have s1 : Same H H1 := Same.made nr nd kp1
    have x1 : RS K c bs H1 r a false 0 := ⟨⟨dr, ho1⟩, s1.seq ha, Nat.zero_le _, hsz⟩
    -- leaves, line feed
    rw [readFindings_eq] at k
    have kk : RR K c bs r a false (fun (_ : Nat) _ _ => True) (bnd (numB 1 LEAVES 0 (bs.drop 0)) fun n q u => bnd (charAt 10 q u) fun _ q u => (.ok (n, q, u) : Rd Nat)) H1 (fun _ _ => True) E := by
      rw [List.drop_zero]
      rcases h0 : (bnd (numB 1 LEAVES 0 bs) fun n q u => bnd (charAt 10 q u) fun _ q u => (.ok (n, q, u) : Rd Nat)) with e | ⟨n, q, u⟩
      · rw [h0] at k
        exact fun dx H' h1 h2 => k dx H' h1 (same_keep s1 nr h2)
      · exact fun _ _ _ _ _ => True.intro
    refine to_rn (lo := 1) (hi := LEAVES) x1 (vls_cons (val_var rfl) (vls_cons val_c (vls_cons val_c vls_nil))) (kk.seq (suf_numB x1.le) fun n q1 v H2 e1 _ g1 hv x2 kp2 k2 => ?_)
    obtain rfl : v = .int (n : Int) := hv
    rw [charAt_bnd, bnd_bnd] at k2
    refine to_need (cs := [10]) x2 rfl (vls_cons val_c vls_nil) (by decide) (k2.seq (suf_need x2.le) fun c3 q3 v3 H3 e3 _ g3 hv3 x3 kp3 k3 => ?_)
    have hn : n ≤ 16 := (numB_ok e1).2
    have s3 : Same H H3 := same_keep (same_keep s1 nr kp2) nr kp3
    have k' : RF c (inF n (finFrom n ((bs.drop q3).length + 1) [] q3 (bs.drop q3))) H Q E := by
      rw [List.drop_zero] at e1
      rw [e1, bnd_ok, charAt_bnd, show needAt [(10 : UInt8).toNat] q1 (bs.drop q1) = _ from e3, bnd_ok, bnd_ok] at k
      exact k
    -- findings = []
    refine ⟨Nat.zero_le _, fun l nl => ?_⟩
    have nlH : H l = none := s3.free nl
    have x4 := x3.new (o := .lst []) nl
    refine to_while (fun m σ' H' => ∃ (xs : List Finding) (vs : List V) (q : Nat), σ' = [some (.ref a), some (.ref r), some (.int (n : Int)), some (.ref l)] ∧
      H' l = some (.lst vs) ∧ RepL c xs vs H' ∧ bs.length - q + 1 ≤ m ∧ xs.length ≤ 64 ∧ RS K c bs H' r a false q ∧ Same H H' ∧ RF c (inF n (finFrom n m xs q (bs.drop q))) H Q E)
      ⟨[], [], q3, rfl, upd_same, ⟨rfl, fun i f e => by simp at e⟩, by rw [List.length_drop]; exact Nat.le_refl _, by decide, x4, fun z o h => by rw [upd_ne (ne_of_none h nlH)]; exact s3 z o h, k'⟩ ?_
    rintro m σ' H' ⟨xs, vs, q, rfl, hl, hL, hm, hx, x', s', k'⟩
    refine ⟨_, tst_neI (val_byte x' rfl) val_c, fun ht => ?_, fun ht => ?_⟩
    · have hne : bs.drop q ≠ [] := by
        rw [Bool.not_eq_true', decide_eq_false_iff_not] at ht
        exact fun z => ht ((byte_end x'.le).mpr z)
      refine to_if (tst_eqI (val_len rfl (.inl (SqL.of hl))) val_c) (fun hz => ?_) fun hz => ?_
      · rw [decide_eq_true_iff, hL.1] at hz
        rw [finFrom_full n m xs q hne (by show xs.length = 64; omega)] at k'
        refine to_fail (rep := RepF c) (Q := Q) x' rfl (val_place T x' rfl) ?_
        exact fun dx H'' h1 h2 => k' dx H'' h1 (same_keep s' nr h2)
      · rw [decide_eq_false_iff_not, hL.1] at hz
        have hx2 : xs.length < 64 := by omega
        obtain ⟨m, rfl⟩ : ∃ m', m = m' + 1 := ⟨m - 1, by omega⟩
        rw [finFrom_step n m xs q hne hx2] at k'
        refine to_next ?_
        dsimp only
        refine ⟨_, rfl, .inl ⟨rfl, _, SqL.of hl⟩, ?_⟩
        refine to_call (vls_cons (val_var rfl) (vls_cons (val_var rfl) vls_nil)) ⟨r, a, false, q, n, rfl, hn, x', ?_⟩
        cases e5 : findingAt n q (bs.drop q) with
        | error z =>
          rw [e5] at k'
          exact fun dx H'' h1 h2 => k' dx H'' h1 (same_keep s' nr h2)
        | ok z =>
          obtain ⟨fi, q5, u5⟩ := z
          obtain ⟨rfl, g5, g6⟩ := (suf_finding x'.le).ok e5
          rw [e5] at k'
          intro v5 H5 hv5 x5 kp5
          obtain ⟨dq, hoq⟩ := x'.obj
          obtain ⟨d5, ho5⟩ := x5.obj
          have hl5 := kp5 _ _ hl (ne_of hl hoq (by intro z; cases z))
          have s5 : Same H H5 := same_keep s' nr kp5
          have nrl : r ≠ l := ne_of ho5 hl5 (by intro z; cases z)
          have sN : Same H (upd H5 l (.lst (vs ++ [v5]))) := fun z o h => by rw [upd_ne (ne_of_none h nlH)]; exact s5 z o h
          refine ⟨l, _, _, rfl, rfl, hl5, ?_, m, by omega, xs ++ [fi], vs ++ [v5], q5, rfl, upd_same, (hL.keep kp5 hoq).snoc hv5 hl5, by omega, by rw [List.length_append, List.length_singleton]; omega, ⟨⟨d5, by rw [upd_ne nrl]; exact ho5⟩, sN.seq ha, x5.le, hsz⟩, sN, k'⟩
          rw [hL.1]
          exact Nat.lt_of_le_of_lt hx (by decide)
    · rw [Bool.not_eq_false', decide_eq_true_iff] at ht
      rw [(byte_end x'.le).mp ht, finFrom_end] at k'
      refine ⟨_, rfl, _, rfl, fun z dz nz nd2 ne2 => ⟨z, dz, n, l, rfl, upd_same, fun H6 hx6 kp6 => ⟨rfl, ?_⟩⟩⟩
      have s6 : Same H' H6 := Same.made nz nd2 kp6
      exact k' _ _ ⟨z, dz, l, vs, rfl, hx6, s6 _ _ hl, hL.same s6⟩ (s'.trans s6)
/-- the two steps of a reading of findings -/
structure Gts (P : Program) (w : World) (K : PySem.W.Frag) (mg : Str → Option Value) (base : Heap) (c : Cs) (fH fR : Addr) (dH dR : FuncData) : Prop where
  gH : FnOk P w K mg base (CXx P w) 3 fH dH ["text"] (spShort K c)
  gR : FnOk P w K mg base (CXx P w) 10 fR dR ["text"] (spRFs K c)
  bH : Binds K dH ["text"] []
  bR : Binds K dR ["text"] []
  kH : PySem.W.keepIn K (.ref fH) = true
  kR : PySem.W.keepIn K (.ref fR) = true
  mH : mg "need_short" = some (.ref fH)
  mR : mg "read_findings" = some (.ref fR)
end
end Desk
end
section
set_option Elab.async false
set_option linter.all false
set_option maxRecDepth 100000
namespace Desk
open PySem PySem.Spec PyProof.Rows L2
open Quire (Bytes)
/-- a def of the text, as the top has written it -/
structure FAt (K : PySem.W.Frag) (x qual : Str) (st : Stmt) (ps : List Str) (f : Addr) (fd : FuncData) : Prop where
  F : Fun K x qual st f fd
  b : Binds K fd ps []
  k : PySem.W.keepIn K (.ref f) = true
structure FGl (K : PySem.W.Frag) (mg : Str → Option Value) (x : Str) (st : Stmt) (ps : List Str) (f : Addr) (fd : FuncData) : Prop extends FAt K x x st ps f fd where
  m : mg x = some (.ref f)
/-- all of the reading that is common -/
structure Reads (P : Program) (w : World) (K : PySem.W.Frag) (mg : Str → Option Value) (base : Heap) (c : Cs) (fB fS fF fN fU gN gL fI fH fR : Addr) (dB dS dF dN dU eN eL dI dH dR : FuncData) : Prop where
  M : ∀ bs, Small P w K mg base c bs fB fS fF dB dS dF
  G : ∀ bs, Big P w K mg base c bs fN fU dN dU
  R : ∀ bs, Rds P w K mg base c bs gN gL eN eL
  MR : Mk K c.R fI
  GI : FnOk P w K mg base (CXx P w) 1 fI dI ["self", "text", "of_book"] (spRInit c.R)
  bI : Binds K dI ["self", "text", "of_book"] []
  T2 : Gts P w K mg base c fH fR dH dR
section
variable {P : Program} {w : World} {K : PySem.W.Frag} {mg : Str → Option Value} {base : Heap} {c : Cs} {xF xB xL fM fJ fI fB fS fF fN fU gN gL gS gBL gBS gRR gRel gRF fH fR : Addr} {yF yB yL dM dJ dI dB dS dF dN dU eN eL eS eBL eBS eRR eRel eRF dH dR : FuncData}
theorem reads_ok (T : Txt K mg c) (aF : FAt K "__init__" "FindingsFault.__init__" sFFInit ["self", "place"] xF yF) (mF : XMk K c.F xF) (aB : FAt K "__init__" "BookFault.__init__" sBFInit ["self", "place"] xB yB) (mB : XMk K c.B xB)
    (aL : FAt K "__init__" "TooLong.__init__" sTLInit ["self"] xL yL) (mL : XMk K c.L xL) (aM : FAt K "__init__" "Finding.__init__" sFiInit ["self", "negated", "sign", "told"] fM dM) (mM : Mk K c.Fi fM)
    (aJ : FAt K "__init__" "Seen.__init__" sSeInit ["self", "leaves", "findings"] fJ dJ) (mJ : Mk K c.S fJ) (aI : FAt K "__init__" "Reader.__init__" sRInit ["self", "text", "of_book"] fI dI) (mI : Mk K c.R fI)
    (aFl : FAt K "fail" "Reader.fail" sFail ["self", "place"] fF dF) (mFl : Meth K c.R "fail" fF) (aBy : FAt K "byte" "Reader.byte" sByte ["self"] fB dB) (mBy : Meth K c.R "byte" fB) (aSt : FAt K "step" "Reader.step" sStep ["self"] fS dS) (mSt : Meth K c.R "step" fS)
    (aNd : FAt K "need" "Reader.need" sNeed ["self", "allowed"] fN dN) (mNd : Meth K c.R "need" fN) (aNu : FAt K "take_number" "Reader.take_number" sNumber ["self"] fU dU) (mNu : Meth K c.R "take_number" fU)
    (aRN : FGl K mg "read_number" sRN ["reader", "least", "most"] gN eN) (aRL : FGl K mg "read_letter" sRL ["reader"] gL eL) (aRS : FGl K mg "read_side" sRSd ["reader", "leaves"] gS eS)
    (aBL : FGl K mg "read_behind_leaf" sBL ["reader", "leaves", "negated", "leaf"] gBL eBL) (aBS : FGl K mg "read_behind_side" sBS ["reader", "leaves", "negated", "side"] gBS eBS)
    (aRR : FGl K mg "read_rising" sRR ["reader", "leaves", "negated"] gRR eRR) (aRel : FGl K mg "read_related" sRel ["reader", "leaves", "negated"] gRel eRel) (aRF : FGl K mg "read_finding" sRF ["reader", "leaves"] gRF eRF)
    (aRs : FGl K mg "read_findings" sRFs ["text"] fR dR) (aSh : FGl K mg "need_short" sShort ["text"] fH dH) : Reads P w K mg base c fB fS fF fN fU gN gL fI fH fR dB dS dF dN dU eN eL dI dH dR := by
  have GF := ok_ffinit (P := P) (w := w) (base := base) aF.F T
  have GB := ok_bfinit (P := P) (w := w) (base := base) aB.F T
  have GL := ok_tlinit (P := P) (w := w) (base := base) aL.F T
  have GI := ok_rinit (P := P) (w := w) (base := base) aI.F T
  have GJ := ok_seinit (P := P) (w := w) (base := base) aJ.F T
  have MF : FiM P w K mg base c fM dM := ⟨mM, ok_fiinit aM.F T, aM.b⟩
  have M : ∀ bs, Small P w K mg base c bs fB fS fF dB dS dF := fun bs => ⟨ok_byte aBy.F T, ok_step aSt.F T, ok_fail aFl.F T mF mB GF GB aF.b aB.b, aBy.b, aSt.b, aFl.b, mBy, mSt, mFl⟩
  have G : ∀ bs, Big P w K mg base c bs fN fU dN dU := fun bs => ⟨ok_need aNd.F T (M bs), ok_number aNu.F T (M bs), aNd.b, aNu.b, mNd, mNu⟩
  have R : ∀ bs, Rds P w K mg base c bs gN gL eN eL := fun bs => ⟨ok_rn aRN.F T (M bs) (G bs), ok_rl aRL.F T (G bs), aRN.b, aRL.b, aRN.k, aRL.k, aRN.m, aRL.m⟩
  have S : ∀ bs, FnOk P w K mg base (CXx P w) 6 gS eS ["reader", "leaves"] (spRSd K c bs) := fun bs => ok_rsd aRS.F T (R bs)
  have B : ∀ bs, Beh P w K mg base c bs gBL gBS eBL eBS := fun bs => ⟨ok_bl aBL.F T (M bs) (G bs) (R bs) MF, ok_bs aBS.F T (M bs) (G bs) (S bs) aRS.b aRS.k aRS.m MF, aBL.b, aBS.b, aBL.k, aBS.k, aBL.m, aBS.m⟩
  have W : ∀ bs, Two P w K mg base c bs gRR gRel eRR eRel := fun bs => ⟨ok_rr aRR.F T (M bs) (G bs) (R bs) (S bs) aRS.b aRS.k aRS.m MF, ok_rel aRel.F T (M bs) (R bs) (B bs), aRR.b, aRel.b, aRR.k, aRel.k, aRR.m, aRel.m⟩
  have XF : ∀ bs, FnOk P w K mg base (CXx P w) 9 gRF eRF ["reader", "leaves"] (spRF K c bs) := fun bs => ok_rf aRF.F T (M bs) (G bs) (W bs)
  have RsO : FnOk P w K mg base (CXx P w) 10 fR dR ["text"] (spRFs K c) := ok_rfs aRs.F T M G R XF aRF.b aRF.k aRF.m mI GI aI.b mJ GJ aJ.b
  exact ⟨M, G, R, mI, GI, aI.b, ⟨ok_short aSh.F T mL GL aL.b, RsO, aSh.b, aRs.b, aSh.k, aRs.k, aSh.m, aRs.m⟩⟩
end
end Desk
end
section
set_option linter.all false
namespace Desk
open Quire (Bytes Sign)
open QuireSeen (Rd number letterAt charAt isLeafOf Lies Book liesAt bookAt readBook)
/-! ### books: what stands behind a leaf, and a leaf -/
def bndE {α β : Type} (r : Rd α) (k : α → Nat → Bytes → Except Nat β) : Except Nat β := match r with
  | .error e => .error e
  | .ok (x, q, u) => k x q u
theorem bndE_ok {α β : Type} (x : α) (q : Nat) (u : Bytes) (k : α → Nat → Bytes → Except Nat β) : bndE (.ok (x, q, u)) k = k x q u := rfl
theorem bndE_err {α β : Type} (e : Nat) (k : α → Nat → Bytes → Except Nat β) : bndE (.error e) k = .error e := rfl
theorem bndE_bnd {α β γ : Type} (r : Rd α) (k : α → Nat → Bytes → Rd β) (m : β → Nat → Bytes → Except Nat γ) : bndE (bnd r k) m = bndE r fun x q u => bndE (k x q u) m := by
  rcases r with e | ⟨x, q, u⟩ <;> rfl
/-- the end of a gathering, or a blank -/
def endsAt (w p : Nat) (t : Bytes) : Rd Bool := bnd (needAt [32] p t) fun _ q v => if v.head? = some 47 then (if w ≠ 0 then .error p else bnd (charAt 32 (q + 1) (v.drop 1)) fun _ q u => .ok (true, q, u)) else .ok (false, q, v)
/-- a leaf, as the program reads it: a ) behind a leaf with a ( is a fault at once -/
def layAt (n : Nat) (us : List Nat) (w p : Nat) (t : Bytes) : Rd Lies :=
  bnd (number (if t.head? = some 40 then p + 1 else p) (if t.head? = some 40 then t.drop 1 else t)) fun l q u => if ¬ (1 ≤ l ∧ l ≤ n) ∨ l ∈ us then .error p else
    bnd (letterAt q u) fun b q u => if u.head? = some 41 then (if t.head? = some 40 ∨ w = 0 then .error q else .ok (⟨l, b, .closes⟩, q + 1, u.drop 1)) else .ok (⟨l, b, if t.head? = some 40 then .opens else .alone⟩, q, u)
def nextW (w : Nat) (x : Lies) : Nat := if x.sign = .opens then w + 1 else if x.sign = .closes then w - 1 else w
def sepFrom (n f : Nat) (us : List Nat) (w : Nat) (h : List Lies) (q : Nat) (u : Bytes) : Except Nat Book := match u with
  | [] => if us.length = n ∧ w = 0 then .ok [h] else .error q
  | c :: v => if c ≠ 32 ∨ us.length = n then .error q else match v with
    | d :: z => if d = 47 then (if w ≠ 0 then .error q else match charAt 32 (q + 2) z with
        | .error e => .error e
        | .ok (_, q, u) => match bookAt n f us 0 [] q u with
          | .error e => .error e
          | .ok B => .ok (h :: B))
      else bookAt n f us w h (q + 1) v
    | [] => .error (q + 1)
theorem book_sep (n f : Nat) (us : List Nat) (w : Nat) (g : List Lies) (p : Nat) (t : Bytes) : bookAt n (f + 1) us w g p t = bndE (liesAt n us w p t) fun x q u => sepFrom n f (x.leaf :: us) (nextW w x) (g ++ [x]) q u := by
  rw [bookAt]
  rcases liesAt n us w p t with e | ⟨x, q, u⟩
  · rfl
  · dsimp only [bndE]
    cases u with
    | nil => rfl
    | cons c v => cases v <;> rfl
theorem sep_bad {n f : Nat} {us : List Nat} {w : Nat} {h : List Lies} {q : Nat} {u : Bytes} (hu : u.head? = some 41) : sepFrom n f us w h q u = .error q := by
  cases u with
  | nil => cases hu
  | cons c v =>
    cases hu
    unfold sepFrom
    dsimp only
    rw [if_pos (.inl (by decide))]
theorem isLeaf_iff {n l : Nat} : isLeafOf n l = false ↔ ¬ (1 ≤ l ∧ l ≤ n) := by
  unfold isLeafOf
  rw [← Bool.not_eq_true, Bool.and_eq_true, decide_eq_true_iff, decide_eq_true_iff]
theorem book_lay (n f : Nat) (us : List Nat) (w : Nat) (g : List Lies) (p : Nat) (t : Bytes) : bookAt n (f + 1) us w g p t = bndE (layAt n us w p t) fun x q u => sepFrom n f (x.leaf :: us) (nextW w x) (g ++ [x]) q u := by
  rw [book_sep]
  unfold liesAt layAt
  have ho : ((t.head? == some 40) = true) ↔ t.head? = some 40 := beq_iff_eq
  by_cases h40 : t.head? = some 40
  · rw [if_pos h40, if_pos h40]
    simp only [ho.mpr h40, if_true]
    rcases number (p + 1) (t.drop 1) with e | ⟨l, q, u⟩
    · rfl
    · dsimp only [bndE, bnd]
      by_cases hl : isLeafOf n l = false ∨ us.contains l = true
      · rw [if_pos hl, if_pos (by rw [isLeaf_iff] at hl; simpa using hl)]
      · rw [if_neg hl, if_neg (by rw [isLeaf_iff] at hl; simpa using hl)]
        rcases letterAt q u with e | ⟨b, q, u⟩
        · rfl
        · dsimp only
          by_cases h41 : u.head? = some 41
          · rw [if_pos h41, if_pos (.inl h40)]
            exact sep_bad h41
          · rw [if_neg h41, if_pos h40]
  · rw [if_neg h40, if_neg h40]
    have hf : (t.head? == some 40) = false := by
      rw [← Bool.not_eq_true, ho]
      exact h40
    simp only [hf, Bool.false_eq_true, if_false]
    rcases number p t with e | ⟨l, q, u⟩
    · rfl
    · dsimp only [bndE, bnd]
      by_cases hl : isLeafOf n l = false ∨ us.contains l = true
      · rw [if_pos hl, if_pos (by rw [isLeaf_iff] at hl; simpa using hl)]
      · rw [if_neg hl, if_neg (by rw [isLeaf_iff] at hl; simpa using hl)]
        rcases letterAt q u with e | ⟨b, q, u⟩
        · rfl
        · dsimp only
          rw [if_neg h40]
          cases u with
          | nil => rfl
          | cons c v =>
            by_cases h41 : c = 41
            · subst h41
              simp only [List.head?_cons, if_true, h40, false_or, List.drop_one, List.tail_cons]
              all_goals (try (split <;> rfl))
            · simp only [List.head?_cons, Option.some.injEq, if_neg h41]
theorem sep_ends {n f : Nat} {us : List Nat} {w : Nat} {h : List Lies} {q : Nat} {u : Bytes} (hn : us.length < n) : sepFrom n (f + 1) us w h q u = bndE (endsAt w q u) fun b q' u' =>
    if b = true then (match bookAt n (f + 1) us w [] q' u' with | .error e => .error e | .ok B => .ok (h :: B)) else bookAt n (f + 1) us w h q' u' := by
  have hne : us.length ≠ n := by omega
  unfold sepFrom endsAt
  cases u with
  | nil =>
    dsimp only [needAt, bnd, bndE]
    rw [if_neg (fun z => hne z.1)]
  | cons c v =>
    dsimp only
    rw [need_cons]
    by_cases hc : c = 32
    · subst hc
      rw [if_neg (by simp [hne]), if_pos (by decide), bnd_ok]
      cases v with
      | nil =>
        rw [if_neg (show ¬ (([] : List UInt8).head? = some 47) from fun z => nomatch z), bndE_ok, if_neg Bool.false_ne_true, book_sep]
        rfl
      | cons d z =>
        dsimp only
        by_cases hd : d = 47
        · subst hd
          simp only [List.head?_cons, if_true, List.drop_one, List.tail_cons]
          by_cases hw : w ≠ 0
          · rw [if_pos hw, if_pos hw, bndE_err]
          · rw [if_neg hw, if_neg hw, bndE_bnd]
            have hw0 : w = 0 := Classical.byContradiction hw
            subst hw0
            rcases charAt 32 (q + 2) z with e | ⟨_, q, u⟩
            · rfl
            · rfl
        · rw [if_neg hd, if_neg (by simpa using hd), bndE_ok, if_neg Bool.false_ne_true]
    · rw [if_pos (.inl hc), if_neg (by
        intro z
        simp only [List.mem_cons, List.not_mem_nil, or_false] at z
        exact hc (u8_eq.mpr z)), bnd_err, bndE_err]
theorem sep_end {n f : Nat} {us : List Nat} {w : Nat} {h : List Lies} {q : Nat} {u : Bytes} (hn : us.length = n) : sepFrom n f us w h q u = if u = [] ∧ w = 0 then .ok [h] else .error q := by
  unfold sepFrom
  cases u with
  | nil =>
    dsimp only
    by_cases hw : w = 0
    · rw [if_pos ⟨hn, hw⟩, if_pos ⟨rfl, hw⟩]
    · rw [if_neg (fun z => hw z.2), if_neg (fun z => hw z.2)]
  | cons c v =>
    dsimp only
    rw [if_pos (.inr hn), if_neg (fun z => nomatch z.1)]
theorem sep_short {n f : Nat} {us : List Nat} {w : Nat} {h : List Lies} {q : Nat} (hn : us.length < n) : sepFrom n f us w h q [] = .error q := by
  unfold sepFrom
  rw [if_neg (fun z => by omega)]
theorem suf_ends {bs : Bytes} {w p : Nat} (hp : p ≤ bs.length) : Suf bs p (endsAt w p (bs.drop p)) := by
  unfold endsAt
  refine suf_bnd (suf_need hp) fun c q h1 h2 _ => ?_
  split
  · rename_i hh
    split
    · exact ⟨Nat.le_refl _, hp⟩
    · rw [List.drop_drop]
      have hq : q < bs.length := by
        rw [List.head?_drop] at hh
        exact (List.getElem?_eq_some_iff.mp hh).1
      exact suf_bnd ((suf_char hq).mono (by omega)) fun _ q' h3 h4 _ => ⟨rfl, h3, h4⟩
  · exact ⟨rfl, h1, h2⟩
theorem suf_lay {bs : Bytes} {n : Nat} {us : List Nat} {w p : Nat} (hp : p ≤ bs.length) : Suf bs p (layAt n us w p (bs.drop p)) := by
  unfold layAt
  have hnum : Suf bs p (number (if (bs.drop p).head? = some 40 then p + 1 else p) (if (bs.drop p).head? = some 40 then (bs.drop p).drop 1 else bs.drop p)) := by
    by_cases hh : (bs.drop p).head? = some 40
    · rw [if_pos hh, if_pos hh, List.drop_drop]
      have hq : p < bs.length := by
        rw [List.head?_drop] at hh
        exact (List.getElem?_eq_some_iff.mp hh).1
      exact (suf_number (show p + 1 ≤ bs.length from hq)).mono (by omega)
    · rw [if_neg hh, if_neg hh]
      exact suf_number hp
  refine suf_bnd hnum fun l q h1 h2 _ => ?_
  split
  · exact ⟨Nat.le_refl _, hp⟩
  · refine suf_bnd ((suf_letter h2).mono (by omega)) fun b q' h3 h4 _ => ?_
    split
    · rename_i hh
      have hq : q' < bs.length := by
        rw [List.head?_drop] at hh
        exact (List.getElem?_eq_some_iff.mp hh).1
      split
      · exact ⟨by omega, h4⟩
      · exact ⟨by rw [List.drop_drop], by omega, hq⟩
    · exact ⟨rfl, h3, h4⟩
/-- what layAt gives -/
theorem lay_ok {n : Nat} {us : List Nat} {w p q : Nat} {t u : Bytes} {x : Lies} (h : layAt n us w p t = .ok (x, q, u)) : 1 ≤ x.leaf ∧ x.leaf ≤ n ∧ x.leaf ∉ us ∧ (x.sign = .opens ∨ x.sign = .alone ∨ (x.sign = .closes ∧ w ≠ 0)) := by
  unfold layAt at h
  generalize number (if t.head? = some 40 then p + 1 else p) (if t.head? = some 40 then t.drop 1 else t) = rr at h
  rcases rr with e | ⟨l, q1, u1⟩
  · cases h
  · rw [bnd_ok] at h
    split at h
    · cases h
    · rename_i hl
      generalize letterAt q1 u1 = rr at h
      rcases rr with e | ⟨b, q2, u2⟩
      · cases h
      · rw [bnd_ok] at h
        have hl1 : (1 ≤ l ∧ l ≤ n) ∧ l ∉ us := ⟨Classical.byContradiction fun z => hl (.inl z), fun z => hl (.inr z)⟩
        split at h
        · split at h
          · cases h
          · rename_i hw
            cases h
            exact ⟨hl1.1.1, hl1.1.2, hl1.2, .inr (.inr ⟨rfl, fun z => hw (.inr z)⟩)⟩
        · cases h
          refine ⟨hl1.1.1, hl1.1.2, hl1.2, ?_⟩
          dsimp only
          split
          · exact .inl rfl
          · exact .inr (.inl rfl)
end Desk
end
section
set_option Elab.async false
set_option linter.all false
set_option maxRecDepth 100000
namespace Desk
open PySem PySem.Spec PyProof.Rows L2
open Quire (Bytes Sign)
open QuireSeen (Rd number Side letterAt charAt Lies Book)
/-! ### leaves as they lie, as objects -/
structure Cb where
  LL : Addr
  Ca : Addr
structure TxtB (K : PySem.W.Frag) (mg : Str → Option Value) (cb : Cb) : Prop where
  clL : Cls K cb.LL
  nNu : NoAttr K cb.LL "number"
  nFr : NoAttr K cb.LL "front"
  nSi : NoAttr K cb.LL "sign"
  clC : Cls K cb.Ca
  nLv : NoAttr K cb.Ca "leaves"
  nFs : NoAttr K cb.Ca "findings"
  nGa : NoAttr K cb.Ca "gatherings"
  mgL : mg "LyingLeaf" = some (.ref cb.LL)
  mgC : mg "Case" = some (.ref cb.Ca)
  cOP : Con0 mg "OPENING" 40
  cCL : Con0 mg "CLOSING" 41
  cSL : Con0 mg "SLASH" 47
def sgB : Sign → Nat
  | .alone => 124
  | .opens => 40
  | .closes => 41
  | .stubOpens => 0
  | .stubCloses => 0
def lf (n fr sg : Int) : List (Str × V) := [("number", .int n), ("front", .int fr), ("sign", .int sg)]
theorem lf_ne {n fr sg : Int} {a : Addr} {b : Bool} {p : Nat} : lf n fr sg ≠ rf a b p := fun h => absurd (congrArg (List.map Prod.fst) h) (by decide +kernel : ¬ ([("number" : Str), ("front" : Str), ("sign" : Str)] = [("text" : Str), ("of_book" : Str), ("place" : Str)]))
theorem lf_make (n fr sg : Int) : putF "sign" (.int sg) (putF "front" (.int fr) (putF "number" (.int n) [])) = lf n fr sg := by
  have e : ¬ (("number" : Str) = ("front" : Str)) := by decide +kernel
  have e1 : ¬ (("number" : Str) = ("sign" : Str)) := by decide +kernel
  have e2 : ¬ (("front" : Str) = ("sign" : Str)) := by decide +kernel
  simp only [lf, putF, if_neg e, if_neg e1, if_neg e2]
theorem lf_number (n fr sg : Int) : (lf n fr sg).lookup ("number" : Str) = some (.int n) := by
  simp only [lf, List.lookup, beq_self_eq_true]
theorem lf_front (n fr sg : Int) : (lf n fr sg).lookup ("front" : Str) = some (.int fr) := by
  have e : (("front" : Str) == ("number" : Str)) = false := by decide +kernel
  simp only [lf, List.lookup, e, beq_self_eq_true]
theorem lf_sign (n fr sg : Int) : (lf n fr sg).lookup ("sign" : Str) = some (.int sg) := by
  have e : (("sign" : Str) == ("number" : Str)) = false := by decide +kernel
  have e1 : (("sign" : Str) == ("front" : Str)) = false := by decide +kernel
  simp only [lf, List.lookup, e, e1, beq_self_eq_true]
def lx (x : Lies) : List (Str × V) := lf (x.leaf : Int) (b2n x.b : Int) (sgB x.sign : Int)
def RepX (cb : Cb) (x : Lies) (v : V) (H : Hp) : Prop := ∃ a dx, v = .ref a ∧ H a = some (.ins cb.LL dx (lx x))
theorem RepX.keep {cb : Cb} {x : Lies} {v : V} {H H' : Hp} {r a dr C : Addr} {b : Bool} {p : Nat} (h : RepX cb x v H) (k : Keep r H H') (hr : H r = some (.ins C dr (rf a b p))) : RepX cb x v H' := by
  obtain ⟨y, dx, e, h1⟩ := h
  refine ⟨y, dx, e, k _ _ h1 (fun z => ?_)⟩
  rw [z, hr] at h1
  injection h1 with h1
  injection h1 with _ _ h1
  exact lf_ne h1.symm
theorem RepX.same {cb : Cb} {x : Lies} {v : V} {H H' : Hp} (h : RepX cb x v H) (s : Same H H') : RepX cb x v H' := let ⟨y, dx, e, h1⟩ := h; ⟨y, dx, e, s _ _ h1⟩
def spLLInit (cb : Cb) : Sp := fun vs H Q _ => ∃ x dx n fr sg, vs = [.ref x, .int n, .int fr, .int sg] ∧ H x = some (.ins cb.LL dx []) ∧ ∀ H', H' x = some (.ins cb.LL dx (lf n fr sg)) → Keep x H H' → Q .non H'
theorem val_din {σ : L2.St} {H : Hp} {ty td : TE} {d : Addr} {kvs : List (Key × V)} {z : Int} (h1 : Val ty σ H (.int z)) (h2 : Val td σ H (.ref d)) (hd : H d = some (.dK kvs)) : Val (tDIn ty td) σ H (.bl (valV kvs (Sum.inl z)).isSome) :=
  fun Q q => h1 _ (h2 _ ⟨d, _, rfl, DGet.k (k := Sum.inl z) hd, q⟩)
/-- the leaves that are placed -/
def DP (kvs : List (Key × V)) (us : List Nat) : Prop := kvs.length = us.length ∧ ∀ l : Nat, (valV kvs (Sum.inl (l : Int))).isSome = decide (l ∈ us)
theorem DP.nil : DP [] [] := ⟨rfl, fun l => by simp [valV_nil]⟩
theorem DP.put {kvs : List (Key × V)} {us : List Nat} {l : Nat} {v : V} (h : DP kvs us) (hl : l ∉ us) : DP (putK kvs (Sum.inl (l : Int)) v) (l :: us) := by
  have hn : valV kvs (Sum.inl (l : Int)) = none := by
    have := h.2 l
    rw [decide_eq_false hl] at this
    exact Option.isNone_iff_eq_none.mp (by rw [← Option.not_isSome, this]; rfl)
  refine ⟨by rw [putK_new v hn, List.length_append, h.1]; rfl, fun j => ?_⟩
  rw [valV_put]
  by_cases e : j = l
  · subst e
    simp
  · rw [if_neg (fun z => e (by injection z with z; omega)), h.2 j]
    simp [e]
section
variable {P : Program} {w : World} {K : PySem.W.Frag} {mg : Str → Option Value} {base : Heap} {c : Cs} {cb : Cb} {bs : Bytes}
theorem scLI : FnScope ["self", "number", "front", "sign"] ["self", "number", "front", "sign"] (defScope sLLInit) := ⟨rfl, rfl, rfl, by decide +kernel, rfl, by decide +kernel, by decide +kernel⟩
theorem ok_llinit {f : Addr} {fd : FuncData} (F : Fun K "__init__" "LyingLeaf.__init__" sLLInit f fd) (T : TxtB K mg cb) : FnOk P w K mg base (CXx P w) 1 f fd ["self", "number", "front", "sign"] (spLLInit cb) := by
  refine F.okx scLI (fun vs H Q E h => ?_) (fun cdv A outer s H vs Q E hr h => ?_)
  · obtain ⟨x, dx, n, fr, sg, rfl, _⟩ := h
    rfl
  · obtain ⟨x, dx, n, fr, sg, rfl, ho, k⟩ := h
    refine ⟨_, pss_cons (ps_fld (pv 0) (pv 1) rfl) (pss_cons (ps_fld (pv 0) (pv 2) rfl) (pss_one (ps_fld (pv 0) (pv 3) rfl))), ?_⟩
    refine ⟨_, rfl, _, rfl, x, cb.LL, dx, _, rfl, ho, T.clL, T.nNu, (by show 0 < 1000; decide), ?_⟩
    refine ⟨_, rfl, _, rfl, x, cb.LL, dx, _, rfl, upd_same, T.clL, T.nFr, (by show 1 < 1000; decide), ?_⟩
    refine ⟨_, rfl, _, rfl, x, cb.LL, dx, _, rfl, upd_same, T.clL, T.nSi, Nat.lt_of_le_of_lt (Nat.le_trans (length_putF _ _ _) (Nat.add_le_add_right (length_putF _ _ _) 1)) (by decide), ?_⟩
    refine k _ (upd_same.trans ?_) fun x o h n => by rw [upd_ne n, upd_ne n, upd_ne n]; exact h
    exact congrArg (fun q => some (HO.ins cb.LL dx q)) (lf_make n fr sg)
structure LLM (P : Program) (w : World) (K : PySem.W.Frag) (mg : Str → Option Value) (base : Heap) (cb : Cb) (f : Addr) (fd : FuncData) : Prop where
  M : Mk K cb.LL f
  G : FnOk P w K mg base (CXx P w) 1 f fd ["self", "number", "front", "sign"] (spLLInit cb)
  b : Binds K fd ["self", "number", "front", "sign"] []
/-- LyingLeaf(..) is handed back -/
theorem to_leaf {H : Hp} {r a : Addr} {b : Bool} {q : Nat} {σ : L2.St} {E : XK} {D : Ends} {x : Lies} {t1 t2 t3 : TE} {u : Bytes} (y : RS K c bs H r a b q) (h1 : Val t1 σ H (.int (x.leaf : Int))) (h2 : Val t2 σ H (.int (b2n x.b : Int))) (h3 : Val t3 σ H (.int (sgB x.sign : Int)))
    (k : RR K c bs r a b (RepX cb) (.ok (x, q, u)) H D.rt E) : tRet (tMake cb.LL (spLLInit cb) [] E (tCons t1 (tCons t2 (tCons t3 tNil)))) D σ H := by
  refine h1 _ (h2 _ (h3 _ fun z dz nz nd ne => ⟨z, dz, _, _, _, rfl, upd_same, fun H' hx kp => ⟨rfl, ?_⟩⟩))
  have s1 := Same.made nz nd kp
  exact k _ _ ⟨z, dz, rfl, hx⟩ (y.same s1) (.same s1)
/-! ### the end of a gathering -/
def isB : Bool → V → Hp → Prop := fun x v _ => v = .bl x
def spWGE (K : PySem.W.Frag) (c : Cs) (bs : Bytes) : Sp := fun vs H Q E => ∃ (r a : Addr) (b : Bool) (p wt : Nat), vs = [.ref r, .int (wt : Int)] ∧ RS K c bs H r a b p ∧ RR K c bs r a b isB (endsAt wt p (bs.drop p)) H Q E
theorem scWG : FnScope ["reader", "waiting", "blank"] ["reader", "waiting"] (defScope sWGE) := ⟨rfl, rfl, rfl, by decide +kernel, rfl, by decide +kernel, by decide +kernel⟩
theorem ok_wge {f fB fS fF fN fU : Addr} {fd dB dS dF dN dU : FuncData} (F : Fun K "read_whether_gathering_ends" "read_whether_gathering_ends" sWGE f fd) (T : Txt K mg c) (TB : TxtB K mg cb) (M : Small P w K mg base c bs fB fS fF dB dS dF) (G : Big P w K mg base c bs fN fU dN dU) :
    FnOk P w K mg base (CXx P w) 5 f fd ["reader", "waiting"] (spWGE K c bs) := by
  refine F.okx scWG (fun vs H Q E h => ?_) (fun cdv A outer s H vs Q E hr h => ?_)
  · obtain ⟨r, a, b, p, wt, rfl, _⟩ := h
    rfl
  · obtain ⟨r, a, b, p, wt, rfl, x, k⟩ := h
    have hr1 : Room 1 _ := hr.mono (by decide)
    have hr3 : Room 3 _ := hr.mono (by decide)
    refine ⟨_, pss_cons (ps_set (i := 2) scWG.nd rfl (Or.inl rfl) (pe_fld (pv 0) rfl))
      (pss_cons (ps_expr (pe_meth (pv 0) T.clR G.mN G.gN hr G.bN .nil pass_x (pa_cons (pe_tup (pa_cons (pe_con0 T.cBLANK) pa_nil)) pa_nil)))
      (pss_cons (ps_if (pt_cmpR op_ne (pe_meth0 (pv 0) T.clR M.mB M.gB hr1 M.bB .nil pass_x) (pe_con0 TB.cSL) (nomark _)) (pss_one (ps_ret pe_bl)) pss_nil)
      (pss_cons (ps_if (pt_cmpR op_gt (pv 1) pe_int (nomark _)) (pss_one (ps_expr (pe_meth (pv 0) T.clR M.mF M.gF hr3 M.bF .nil pass_x (pa_cons (pv 2) pa_nil)))) pss_nil)
      (pss_cons (ps_expr (pe_meth0 (pv 0) T.clR M.mS M.gS hr1 M.bS .nil pass_x))
      (pss_cons (ps_expr (pe_meth (pv 0) T.clR G.mN G.gN hr G.bN .nil pass_x (pa_cons (pe_tup (pa_cons (pe_con0 T.cBLANK) pa_nil)) pa_nil)))
      (pss_one (ps_ret pe_bl))))))), ?_⟩
    refine to_set (val_place T x rfl) ?_
    unfold endsAt at k
    refine to_need (cs := [32]) x rfl (vls_cons val_c vls_nil) (by decide) (k.seq (suf_need x.le) fun c1 q1 v1 H1 e1 _ g1 hv1 x1 kp1 k1 => ?_)
    refine to_if (tst_neI (val_byte x1 rfl) val_c) (fun hz => ?_) fun hz => ?_
    · rw [Bool.not_eq_true', decide_eq_false_iff_not] at hz
      rw [if_neg (fun z => hz (hd_iff.mp z))] at k1
      exact to_ret val_c (k1.ok rfl x1)
    · rw [Bool.not_eq_false', decide_eq_true_iff] at hz
      rw [if_pos (hd_iff.mpr hz)] at k1
      refine to_next ?_
      dsimp only
      refine to_if (tst_i (val_var rfl) val_c) (fun hw => ?_) fun hw => ?_
      · rw [decide_eq_true_iff] at hw
        rw [if_pos (by omega)] at k1
        exact to_fail x1 rfl (val_var rfl) k1
      · rw [decide_eq_false_iff_not] at hw
        rw [if_neg (by omega), List.drop_drop, charAt_bnd, bnd_bnd] at k1
        obtain ⟨cc, hc⟩ : ∃ cc, bs[q1]? = some cc := by
          cases e : bs[q1]? with
          | none => rw [byteAt_none e] at hz; omega
          | some cc => exact ⟨cc, rfl⟩
        refine to_next ?_
        dsimp only
        refine to_step x1 rfl fun dx ho => ?_
        refine to_need (cs := [32]) (x1.step hc) rfl (vls_cons val_c vls_nil) (by decide) ((k1.shift .set).seq (suf_need (x1.step hc (dx := dx)).le) fun c3 q3 v3 H3 e3 _ g3 hv3 x3 kp3 k3 => ?_)
        rw [bnd_ok] at k3
        show Q (.bl true) H3
        exact k3.ok rfl x3
/-! ### a leaf -/
def spRLL (K : PySem.W.Frag) (c : Cs) (cb : Cb) (bs : Bytes) : Sp := fun vs H Q E => ∃ (r a d : Addr) (b : Bool) (p n wt : Nat) (us : List Nat) (kvs : List (Key × V)), vs = [.ref r, .int (n : Int), .ref d, .int (wt : Int)] ∧ H d = some (.dK kvs) ∧ DP kvs us ∧ RS K c bs H r a b p ∧
  RR K c bs r a b (RepX cb) (layAt n us wt p (bs.drop p)) H Q E
theorem scLL : FnScope ["reader", "leaves", "placed", "waiting", "start", "sign", "number", "letter"] ["reader", "leaves", "placed", "waiting"] (defScope sRLL) := ⟨rfl, rfl, rfl, by decide +kernel, rfl, by decide +kernel, by decide +kernel⟩
theorem ok_rll {f fB fS fF fN fU gN gL fM : Addr} {fd dB dS dF dN dU eN eL dM : FuncData} (F : Fun K "read_lying_leaf" "read_lying_leaf" sRLL f fd) (T : Txt K mg c) (TB : TxtB K mg cb) (M : Small P w K mg base c bs fB fS fF dB dS dF) (G : Big P w K mg base c bs fN fU dN dU)
    (R : Rds P w K mg base c bs gN gL eN eL) (ML : LLM P w K mg base cb fM dM) : FnOk P w K mg base (CXx P w) 6 f fd ["reader", "leaves", "placed", "waiting"] (spRLL K c cb bs) := by
  refine F.okx scLL (fun vs H Q E h => ?_) (fun cdv A outer s H vs Q E hr h => ?_)
  · obtain ⟨r, a, d, b, p, n, wt, us, kvs, rfl, _⟩ := h
    rfl
  · obtain ⟨r, a, d, b, p, n, wt, us, kvs, rfl, hd, hDP, x, k⟩ := h
    have hr1 : Room 1 _ := hr.mono (by decide)
    have hr2 : Room 2 _ := hr.mono (by decide)
    have hr3 : Room 3 _ := hr.mono (by decide)
    have hr4 : Room 4 _ := hr.mono (by decide)
    have hu := hu_of hr
    have tail : ∃ t, PSs (cxX P w K mg base ["reader", "leaves", "placed", "waiting", "start", "sign", "number", "letter"] "read_lying_leaf" (defScope sRLL) f cdv A outer s H E) ((defBody sRLL).drop 3) t ∧ ∀ (op : Bool) (q0 : Nat) (H1 : Hp), RS K c bs H1 r a b q0 → Keep r H H1 →
        RR K c bs r a b (RepX cb) (bnd (number q0 (bs.drop q0)) fun l q u => if ¬ (1 ≤ l ∧ l ≤ n) ∨ l ∈ us then .error p else
          bnd (letterAt q u) fun b q u => if u.head? = some 41 then (if op = true ∨ wt = 0 then .error q else .ok (⟨l, b, .closes⟩, q + 1, u.drop 1)) else .ok (⟨l, b, if op = true then .opens else .alone⟩, q, u)) H1 Q E →
        t { nx := fun _ H' => Q .non H', rt := Q } [some (.ref r), some (.int (n : Int)), some (.ref d), some (.int (wt : Int)), some (.int (p : Int)), some (.int (if op = true then 40 else 124)), none, none] H1 := by
      refine ⟨_, pss_cons (ps_set (i := 6) scLL.nd rfl (Or.inl rfl) (pe_meth0 (pv 0) T.clR G.mU G.gU hr4 G.bU .nil pass_x))
        (pss_cons (ps_if (PW.pt (pw_or (pt_cmpR op_lt (pv 6) pe_int (nomark _)) (pw_or (pt_cmpR op_gt (pv 6) (pv 1) (nomark _)) (pw_or1 (pt_cmp (pc_din hu (pv 6) (pv 2)))))))
          (pss_one (ps_expr (pe_meth (pv 0) T.clR M.mF M.gF hr3 M.bF .nil pass_x (pa_cons (pv 4) pa_nil)))) pss_nil)
        (pss_cons (ps_set (i := 7) scLL.nd rfl (Or.inl rfl) (pe_call R.gL hr rfl R.mL R.kL R.bL .nil pass_x (pa_cons (pv 0) pa_nil)))
        (pss_cons (ps_if (pt_cmpR op_eq (pe_meth0 (pv 0) T.clR M.mB M.gB hr1 M.bB .nil pass_x) (pe_con0 TB.cCL) (nomark _))
          (pss_cons (ps_if (PW.pt (pw_or (pt_cmpR op_eq (pv 5) (pe_con0 TB.cOP) (nomark _)) (pw_or1 (pt_cmpR op_eq (pv 3) pe_int (nomark _)))))
            (pss_one (ps_expr (pe_meth (pv 0) T.clR M.mF M.gF hr3 M.bF .nil pass_x (pa_cons (pe_fld (pv 0) rfl) pa_nil)))) pss_nil)
          (pss_cons (ps_set (i := 5) scLL.nd rfl (Or.inl rfl) (pe_con0 TB.cCL)) (pss_one (ps_expr (pe_meth0 (pv 0) T.clR M.mS M.gS hr1 M.bS .nil pass_x))))) pss_nil)
        (pss_one (ps_ret (pe_make ML.M ML.G hr2 rfl TB.mgL ML.b .nil pass_x (pa_cons (pv 6) (pa_cons (pv 7) (pa_cons (pv 5) pa_nil)))))))))
, fun op q0 H1 x1 kp1 k1 => ?_⟩
      refine to_number x1 rfl (k1.seq (suf_number x1.le) fun l q2 v H2 e2 _ g2 hv x2 kp2 k2 => ?_)
      obtain rfl : v = .int (l : Int) := hv
      have ndr : d ≠ r := by
        obtain ⟨_, ho⟩ := x.obj
        exact ne_of hd ho (by intro z; cases z)
      have hd2 := kp2 _ _ (kp1 _ _ hd ndr) ndr
      refine to_if (tst_or (tst_i (val_var rfl) val_c) fun _ => tst_or (tst_i (val_var rfl) (val_var rfl)) fun _ => tst_bl (val_din (val_var rfl) (val_var rfl) hd2)) (fun hz => ?_) fun hz => ?_
      · rw [Bool.or_eq_true, Bool.or_eq_true, decide_eq_true_iff, decide_eq_true_iff, hDP.2 l, decide_eq_true_iff] at hz
        rw [if_pos (by rcases hz with hz | hz | hz; · exact .inl (by omega)
                       · exact .inl (by omega)
                       · exact .inr hz)] at k2
        exact to_fail x2 rfl (val_var rfl) k2
      · rw [Bool.or_eq_false_iff, Bool.or_eq_false_iff, decide_eq_false_iff_not, decide_eq_false_iff_not, hDP.2 l, decide_eq_false_iff_not] at hz
        rw [if_neg (by rintro (z | z); · omega
                       · exact hz.2.2 z)] at k2
        refine to_next ?_
        dsimp only
        refine to_rl x2 (vls_cons (val_var rfl) vls_nil) (k2.seq (suf_letter x2.le) fun z q3 v H3 e3 _ g3 hv x3 kp3 k3 => ?_)
        obtain rfl : v = .int (b2n z : Int) := hv
        refine to_if (tst_eqI (val_byte x3 rfl) val_c) (fun hc => ?_) fun hc => ?_
        · rw [decide_eq_true_iff] at hc
          rw [if_pos (hd_iff.mpr hc)] at k3
          refine to_if (tst_or (tst_eqI (val_var rfl) val_c) fun _ => tst_eqI (val_var rfl) val_c) (fun hw => ?_) fun hw => ?_
          · rw [Bool.or_eq_true, decide_eq_true_iff, decide_eq_true_iff] at hw
            rw [if_pos (by
              rcases hw with hw | hw
              · cases op with
                | true => exact .inl rfl
                | false => rw [if_neg Bool.false_ne_true] at hw; omega
              · exact .inr (by omega))] at k3
            exact to_fail x3 rfl (val_place T x3 rfl) k3
          · rw [Bool.or_eq_false_iff, decide_eq_false_iff_not, decide_eq_false_iff_not] at hw
            rw [if_neg (by
              rintro (z | z)
              · exact hw.1 (by rw [if_pos z])
              · exact hw.2 (by omega)), List.drop_drop] at k3
            obtain ⟨cc, hcc⟩ : ∃ cc, bs[q3]? = some cc := by
              cases e : bs[q3]? with
              | none => rw [byteAt_none e] at hc; omega
              | some cc => exact ⟨cc, rfl⟩
            refine to_next ?_
            dsimp only
            refine to_set val_c (to_step x3 rfl fun dx ho => ?_)
            exact to_leaf (x := ⟨l, z, .closes⟩) (x3.step hcc) (val_var rfl) (val_var rfl) (val_var rfl) (k3.shift .set)
        · rw [decide_eq_false_iff_not] at hc
          rw [if_neg (fun z => hc (hd_iff.mp z))] at k3
          refine to_next ?_
          dsimp only
          refine to_leaf (x := ⟨l, z, if op = true then .opens else .alone⟩) x3 (val_var rfl) (val_var rfl) ?_ k3
          cases op with
          | true => exact val_var rfl
          | false => exact val_var rfl
    obtain ⟨t, ht, htail⟩ := tail
    refine ⟨_, pss_cons (ps_set (i := 4) scLL.nd rfl (Or.inl rfl) (pe_fld (pv 0) rfl)) (pss_cons (ps_set (i := 5) scLL.nd rfl (Or.inl rfl) (pe_con0 T.cBAR))
      (pss_cons (ps_if (pt_cmpR op_eq (pe_meth0 (pv 0) T.clR M.mB M.gB hr1 M.bB .nil pass_x) (pe_con0 TB.cOP) (nomark _))
        (pss_cons (ps_set (i := 5) scLL.nd rfl (Or.inl rfl) (pe_con0 TB.cOP)) (pss_one (ps_expr (pe_meth0 (pv 0) T.clR M.mS M.gS hr1 M.bS .nil pass_x)))) pss_nil) ht)), ?_⟩
    refine to_set (val_place T x rfl) (to_set val_c ?_)
    unfold layAt at k
    refine to_if (tst_eqI (val_byte x rfl) val_c) (fun hz => ?_) fun hz => ?_
    · rw [decide_eq_true_iff] at hz
      have h40 : (bs.drop p).head? = some 40 := hd_iff.mpr hz
      obtain ⟨cc, hcc⟩ : ∃ cc, bs[p]? = some cc := by
        cases e : bs[p]? with
        | none => rw [byteAt_none e] at hz; omega
        | some cc => exact ⟨cc, rfl⟩
      simp only [h40, if_true, List.drop_drop, true_or] at k
      refine to_set val_c (to_step x rfl fun dx ho => ?_)
      refine htail true (p + 1) _ (x.step hcc) .set (RR.shift ?_ .set)
      simpa only [true_or, if_true] using k
    · rw [decide_eq_false_iff_not] at hz
      have h40 : ¬ (bs.drop p).head? = some 40 := fun z => hz (hd_iff.mp z)
      simp only [h40, if_false, false_or] at k
      refine to_next ?_
      dsimp only
      refine htail false p _ x (.refl _ _) ?_
      simpa only [Bool.false_eq_true, false_or, if_false] using k
end
end Desk
end
section
set_option Elab.async false
set_option linter.all false
set_option maxRecDepth 100000
namespace Desk
open PySem PySem.Spec PyProof.Rows L2
open Quire (Bytes Sign)
open QuireSeen (Rd number Side letterAt charAt Lies Book bookAt readBook)
/-! ### a book as a list of lists -/
def RepG (cb : Cb) (g : List Lies) (vs : List V) (H : Hp) : Prop := vs.length = g.length ∧ ∀ (i : Nat) (x : Lies), g[i]? = some x → ∃ v, vs[i]? = some v ∧ RepX cb x v H
structure RepB (cb : Cb) (B : Book) (ga : List Addr) (H : Hp) : Prop where
  len : ga.length = B.length
  nd : ga.Nodup
  at_ : ∀ (i : Nat) (g : List Lies), B[i]? = some g → ∃ a vs, ga[i]? = some a ∧ H a = some (.lst vs) ∧ RepG cb g vs H
def RepBk (cb : Cb) (B : Book) (v : V) (H : Hp) : Prop := ∃ gl ga, v = .ref gl ∧ H gl = some (.lst (ga.map V.ref)) ∧ RepB cb B ga H
theorem RepB.to {cb : Cb} {B : Book} {ga : List Addr} {H H' : Hp} (h : RepB cb B ga H) (h1 : ∀ a xs, a ∈ ga → H a = some (.lst xs) → H' a = some (.lst xs)) (h2 : ∀ x v, RepX cb x v H → RepX cb x v H') : RepB cb B ga H' :=
  ⟨h.len, h.nd, fun i g e => let ⟨a, vs, e1, e2, e3, e4⟩ := h.at_ i g e; ⟨a, vs, e1, h1 a vs (List.mem_of_getElem? e1) e2, e3, fun j x q => let ⟨v, q1, q2⟩ := e4 j x q; ⟨v, q1, h2 x v q2⟩⟩⟩
theorem RepB.same {cb : Cb} {B : Book} {ga : List Addr} {H H' : Hp} (h : RepB cb B ga H) (s : Same H H') : RepB cb B ga H' := h.to (fun a xs _ e => s _ _ e) fun _ _ q => q.same s
theorem RepX.put {cb : Cb} {x : Lies} {v : V} {H : Hp} {l : Addr} {o u : HO} (h : RepX cb x v H) (hl : H l = some o) (ho : ∀ C dx fs, o ≠ .ins C dx fs) : RepX cb x v (upd H l u) := by
  obtain ⟨y, dx, e, h1⟩ := h
  exact ⟨y, dx, e, by rw [upd_ne (ne_of h1 hl (fun z => ho _ _ _ z.symm))]; exact h1⟩
theorem RepX.new {cb : Cb} {x : Lies} {v : V} {H : Hp} {l : Addr} {u : HO} (h : RepX cb x v H) (hl : H l = none) : RepX cb x v (upd H l u) := by
  obtain ⟨y, dx, e, h1⟩ := h
  exact ⟨y, dx, e, by rw [upd_ne (ne_of_none h1 hl)]; exact h1⟩
theorem RepG.snoc {cb : Cb} {g : List Lies} {vs : List V} {x : Lies} {v : V} {H : Hp} (h : RepG cb g vs H) (hx : RepX cb x v H) : RepG cb (g ++ [x]) (vs ++ [v]) H := by
  refine ⟨by simp [h.1], fun i y e => ?_⟩
  by_cases hi : i < g.length
  · rw [List.getElem?_append_left hi] at e
    obtain ⟨u, h1, h2⟩ := h.2 i y e
    exact ⟨u, by rw [List.getElem?_append_left (by rw [h.1]; exact hi)]; exact h1, h2⟩
  · have hi2 : i = g.length := by
      have := (List.getElem?_eq_some_iff.mp e).1
      rw [List.length_append, List.length_singleton] at this
      omega
    subst hi2
    rw [List.getElem?_append_right (Nat.le_refl _), Nat.sub_self] at e
    cases e
    exact ⟨v, by rw [List.getElem?_append_right (by rw [h.1]; exact Nat.le_refl _), h.1, Nat.sub_self]; rfl, hx⟩
/-- the last gathering -/
theorem RepB.last {cb : Cb} {pre : Book} {g : List Lies} {ga : List Addr} {H : Hp} (h : RepB cb (pre ++ [g]) ga H) : ∃ gp al vs, ga = gp ++ [al] ∧ gp.length = pre.length ∧ H al = some (.lst vs) ∧ RepG cb g vs H := by
  have hl := h.len
  rw [List.length_append, List.length_singleton] at hl
  obtain ⟨a, vs, e1, e2, e3⟩ := h.at_ pre.length g (by simp)
  refine ⟨ga.take pre.length, a, vs, ?_, by rw [List.length_take]; omega, e2, e3⟩
  obtain ⟨hlt, e4⟩ := List.getElem?_eq_some_iff.mp e1
  have : ga = ga.take pre.length ++ ga.drop pre.length := (List.take_append_drop _ _).symm
  rw [List.drop_eq_getElem_cons hlt, e4, List.drop_eq_nil_of_le (by omega)] at this
  exact this
theorem RepB.push {cb : Cb} {pre : Book} {g : List Lies} {gp : List Addr} {al : Addr} {vs : List V} {x : Lies} {v : V} {H : Hp} (h : RepB cb (pre ++ [g]) (gp ++ [al]) H) (hp : gp.length = pre.length) (ha : H al = some (.lst vs)) (hg : RepG cb g vs H) (hx : RepX cb x v H) :
    RepB cb (pre ++ [g ++ [x]]) (gp ++ [al]) (upd H al (.lst (vs ++ [v]))) := by
  have tx : ∀ y u, RepX cb y u H → RepX cb y u (L2.upd H al (.lst (vs ++ [v]))) := fun y u q => q.put ha (fun _ _ _ z => nomatch z)
  refine ⟨by simp [hp], h.nd, fun i g' e => ?_⟩
  by_cases hi : i < pre.length
  · rw [List.getElem?_append_left hi] at e
    obtain ⟨a, us, e1, e2, e3, e4⟩ := h.at_ i g' (by rw [List.getElem?_append_left hi]; exact e)
    have na : a ≠ al := fun z => by
      have q : (gp ++ [al])[gp.length]? = some a := by rw [z]; simp
      have := nd_ix h.nd e1 q
      omega
    exact ⟨a, us, e1, by rw [upd_ne na]; exact e2, e3, fun j y q => let ⟨u, q1, q2⟩ := e4 j y q; ⟨u, q1, tx y u q2⟩⟩
  · have hi2 : i = pre.length := by
      have := (List.getElem?_eq_some_iff.mp e).1
      rw [List.length_append, List.length_singleton] at this
      omega
    subst hi2
    rw [List.getElem?_append_right (Nat.le_refl _), Nat.sub_self] at e
    cases e
    obtain ⟨h1, h2⟩ := hg.snoc hx
    exact ⟨al, vs ++ [v], by rw [← hp]; simp, upd_same, h1, fun j y q => let ⟨u, q1, q2⟩ := h2 j y q; ⟨u, q1, tx y u q2⟩⟩
theorem RepB.open_ {cb : Cb} {B : Book} {ga : List Addr} {al : Addr} {H : Hp} (h : RepB cb B ga H) (n : H al = none) : RepB cb (B ++ [[]]) (ga ++ [al]) (upd H al (.lst [])) := by
  have nm : al ∉ ga := fun z => by
    obtain ⟨i, hi⟩ := List.getElem?_of_mem z
    obtain ⟨hlt, _⟩ := List.getElem?_eq_some_iff.mp hi
    obtain ⟨a, vs, e1, e2, _⟩ := h.at_ i _ (List.getElem?_eq_getElem (by rw [← h.len]; exact hlt))
    rw [hi] at e1
    cases e1
    rw [n] at e2
    cases e2
  have h' : RepB cb B ga (upd H al (.lst [])) := h.to (fun a xs m e => by rw [upd_ne (fun z => nm (by rw [← z]; exact m))]; exact e) fun _ _ q => q.new n
  refine ⟨by simp [h.len], nd_snoc h.nd nm, fun i g e => ?_⟩
  by_cases hi : i < B.length
  · rw [List.getElem?_append_left hi] at e
    obtain ⟨a, vs, e1, e2, e3⟩ := h'.at_ i g e
    exact ⟨a, vs, by rw [List.getElem?_append_left (by rw [h.len]; exact hi)]; exact e1, e2, e3⟩
  · have hi2 : i = B.length := by
      have := (List.getElem?_eq_some_iff.mp e).1
      rw [List.length_append, List.length_singleton] at this
      omega
    subst hi2
    rw [List.getElem?_append_right (Nat.le_refl _), Nat.sub_self] at e
    cases e
    exact ⟨al, [], by rw [← h.len]; simp, upd_same, rfl, fun j y q => by simp at q⟩
/-! ### the promise -/
def RBk (c : Cs) (cb : Cb) (res : Except Nat Book) (H : Hp) (Q : VK) (E : XK) : Prop := match res with
  | .error e => ∀ dx H', Ans H' dx [-3, (e : Int)] → Same H H' → E (.ref c.B) (some dx) H'
  | .ok B => ∀ v H', RepBk cb B v H' → Same H H' → Q v H'
def preB (pre : Book) (r : Except Nat Book) : Except Nat Book := match r with
  | .error e => .error e
  | .ok B => .ok (pre ++ B)
theorem sep_ends2 {n f : Nat} {us : List Nat} {wt : Nat} {h : List Lies} {q : Nat} {bs : Bytes} (hn : us.length < n) (hf : bs.length - q ≤ f) : sepFrom n f us wt h q (bs.drop q) = bndE (endsAt wt q (bs.drop q)) fun b q' u' =>
    if b = true then (match bookAt n f us wt [] q' u' with | .error e => .error e | .ok B => .ok (h :: B)) else bookAt n f us wt h q' u' := by
  cases f with
  | zero =>
    have e : bs.drop q = [] := List.drop_eq_nil_of_le (by omega)
    rw [e, sep_short hn]
    rfl
  | succ f => exact sep_ends hn
def headFrom (n f : Nat) (us : List Nat) (wt : Nat) (g : List Lies) (q : Nat) (t : Bytes) : Except Nat Book := if us = [] then bookAt n f us wt g q t else sepFrom n f us wt g q t
/-- what stands on the heap while a book is read -/
structure BSt (K : PySem.W.Frag) (c : Cs) (cb : Cb) (bs : Bytes) (H0 : Hp) (a r gl d : Addr) (n : Nat) (B : Book) (us : List Nat) (q : Nat) (ga : List Addr) (kvs : List (Key × V)) (H : Hp) : Prop where
  lst : H gl = some (.lst (ga.map V.ref))
  out : gl ∉ ga
  rep : RepB cb B ga H
  dic : H d = some (.dK kvs)
  dp : DP kvs us
  rs : RS K c bs H r a true q
  same : Same H0 H
  le : us.length ≤ n
  fre : ∀ l ∈ ga, H0 l = none
theorem to_and {σ : L2.St} {H : Hp} {t u : TT} {Q : Bool → Hp → Prop} {cc : Bool} (ht : Tst t σ H cc) (h1 : cc = true → u σ H Q) (h2 : cc = false → Q false H) : tAnd t u σ H Q := ht _ (by
  cases cc with
  | true => rw [if_pos rfl]; exact h1 rfl
  | false => rw [if_neg Bool.false_ne_true]; exact h2 rfl)
def wBody (st : Stmt) : List Stmt := match st with
  | .While _ b _ _ => b
  | _ => []
end Desk
end
section
set_option Elab.async false
set_option linter.all false
set_option maxRecDepth 100000
namespace Desk
open PySem PySem.Spec PyProof.Rows L2
open Quire (Bytes Sign)
open QuireSeen (Rd number Side letterAt charAt Lies Book bookAt readBook)
section
variable {P : Program} {w : World} {K : PySem.W.Frag} {mg : Str → Option Value} {base : Heap} {c : Cs} {cb : Cb}
def spRB (K : PySem.W.Frag) (c : Cs) (cb : Cb) : Sp := fun vs H Q E => ∃ (a : Addr) (n : Nat) (bs : Bytes), vs = [.ref a, .int (n : Int)] ∧ 1 ≤ n ∧ n ≤ 16 ∧ SqL K H a (tx bs) ∧ bs.length ≤ 16384 ∧ RBk c cb (readBook n bs) H Q E
abbrev NB : List Str := ["text", "leaves", "reader", "gatherings", "placed", "waiting", "leaf"]
abbrev rbLoop : List Stmt := wBody ((defBody sRB).getD 4 (.Pass ⟨0, 0, 0, 0⟩))
theorem scRB : FnScope NB ["text", "leaves"] (defScope sRB) := ⟨rfl, rfl, rfl, by decide +kernel, rfl, by decide +kernel, by decide +kernel⟩
theorem valLen {σ : L2.St} {H : Hp} {i : Nat} {d : Addr} {kvs : List (Key × V)} (hi : σ[i]? = some (some (.ref d))) (h : H d = some (.dK kvs)) :
    Val (tCB (fun xs H Q => ∃ a kvs, xs = [V.ref a] ∧ H a = some (.dK kvs) ∧ Q (.int kvs.length) H) (tCons (tVar i) tNil)) σ H (.int (kvs.length : Int)) :=
  val_call (vls_cons (val_var hi) vls_nil) fun _ q => ⟨d, kvs, rfl, h, q⟩
/-- a leaf is put behind the last one -/
theorem rb_app {X : Cx} (hX : X.N = NB) (hK : X.K = K) {σ : L2.St} {bs : Bytes} {H0 : Hp} {a r gl d y : Addr} {n : Nat} {pre : Book} {g : List Lies} {us : List Nat} {q : Nat} {ga : List Addr} {kvs : List (Key × V)} {H3 : Hp} {x : Lies} {D : Ends}
    (h3 : σ[3]? = some (some (.ref gl))) (h6 : σ[6]? = some (some (.ref y))) (S : BSt K c cb bs H0 a r gl d n (pre ++ [g]) us q ga kvs H3) (hx : RepX cb x (.ref y) H3) (hg : g.length ≤ 16)
    (ha : SqL K H0 a (tx bs)) (k : ∀ H4, BSt K c cb bs H0 a r gl d n (pre ++ [g ++ [x]]) us q ga kvs H4 → D.nx σ H4) :
    tDrop (tBM K "list" rAppend (tOp (rIxL K) (tVar 3) (tUn (rU fun i => .int (-i)) (tC (.int 1)))) (tCons (tVar 6) tNil)) D σ H3 := by
  obtain ⟨gp, al, vs, rfl, hp, hl, hG⟩ := S.rep.last
  have ngl : gl ≠ al := fun z => S.out (by rw [z]; simp)
  obtain ⟨dr, hor⟩ := S.rs.obj
  refine ⟨_, h3, 1, rfl, gl, _, _, .ref al, rfl, rfl, SqL.of S.lst, by rw [List.map_append]; exact atI_last _ _, .inl ⟨rfl, _, SqL.of hl⟩, _, h6, al, _, _, rfl, rfl, hl, by rw [hG.1]; exact Nat.lt_of_le_of_lt hg (by decide), k _ ?_⟩
  have sm : Same H0 (upd H3 al (.lst (vs ++ [.ref y]))) := fun z o h => by
    rw [upd_ne (fun e => by rw [e, S.fre al (by simp)] at h; cases h)]
    exact S.same z o h
  exact ⟨by rw [upd_ne ngl]; exact S.lst, S.out, S.rep.push hp hl hG hx, by rw [upd_ne (ne_of S.dic hl (by intro z; cases z))]; exact S.dic, S.dp,
    ⟨⟨dr, by rw [upd_ne (ne_of hor hl (by intro z; cases z))]; exact hor⟩, sm.seq ha, S.rs.le, S.rs.sz⟩, sm, S.le, S.fre⟩
theorem sg_open {x : Lies} : (sgB x.sign : Int) = 40 ↔ x.sign = .opens := by
  cases x.sign <;> simp [sgB]
theorem sg_close {x : Lies} : (sgB x.sign : Int) = 41 ↔ x.sign = .closes := by
  cases x.sign <;> simp [sgB]
theorem ok_rb {f fB fS fF fN fU gN gL fI fH fR fW fL : Addr} {fd dB dS dF dN dU eN eL dI dH dR dW dL : FuncData} (F : Fun K "read_book" "read_book" sRB f fd) (T : Txt K mg c) (TB : TxtB K mg cb) (RD : Reads P w K mg base c fB fS fF fN fU gN gL fI fH fR dB dS dF dN dU eN eL dI dH dR)
    (GW : ∀ bs, FnOk P w K mg base (CXx P w) 5 fW dW ["reader", "waiting"] (spWGE K c bs)) (bW : Binds K dW ["reader", "waiting"] []) (kW : PySem.W.keepIn K (.ref fW) = true) (mW : mg "read_whether_gathering_ends" = some (.ref fW))
    (GL : ∀ bs, FnOk P w K mg base (CXx P w) 6 fL dL ["reader", "leaves", "placed", "waiting"] (spRLL K c cb bs)) (bL : Binds K dL ["reader", "leaves", "placed", "waiting"] []) (kL : PySem.W.keepIn K (.ref fL) = true) (mL : mg "read_lying_leaf" = some (.ref fL)) :
    FnOk P w K mg base (CXx P w) 7 f fd ["text", "leaves"] (spRB K c cb) := by
  refine F.okx scRB (fun vs H Q E h => ?_) (fun cdv A outer s H vs Q E hr h => ?_)
  · obtain ⟨a, n, bs, rfl, _⟩ := h
    rfl
  · obtain ⟨a, n, bs, rfl, hn1, hn, ha, hsz, k⟩ := h
    have hr1 : Room 1 _ := hr.mono (by decide)
    have hr2 : Room 2 _ := hr.mono (by decide)
    have hr3 : Room 3 _ := hr.mono (by decide)
    have hr5 : Room 5 _ := hr.mono (by decide)
    have hu := hu_of hr
    have tail : ∃ t, PSs (cxX P w K mg base NB "read_book" (defScope sRB) f cdv A outer s H E) (rbLoop.drop 1) t ∧ ∀ (r gl d : Addr) (D : Ends) (pre : Book) (g : List Lies) (us : List Nat) (wt q m : Nat) (ga : List Addr) (kvs : List (Key × V)) (v6 : Option V) (H1 : Hp),
        BSt K c cb bs H a r gl d n (pre ++ [g]) us q ga kvs H1 → H r = none → H gl = none → H d = none → us.length < n → g.length ≤ us.length → bs.length - q + 1 ≤ m → RBk c cb (preB pre (bookAt n m us wt g q (bs.drop q))) H Q E →
        (∀ x q' m' kvs' v6' H2, BSt K c cb bs H a r gl d n (pre ++ [g ++ [x]]) (x.leaf :: us) q' ga kvs' H2 → bs.length - q' ≤ m' → RBk c cb (preB pre (sepFrom n m' (x.leaf :: us) (nextW wt x) (g ++ [x]) q' (bs.drop q'))) H Q E →
          D.nx [some (.ref a), some (.int (n : Int)), some (.ref r), some (.ref gl), some (.ref d), some (.int (nextW wt x : Int)), v6'] H2) →
        t D [some (.ref a), some (.int (n : Int)), some (.ref r), some (.ref gl), some (.ref d), some (.int (wt : Int)), v6] H1 := by
      refine ⟨_, pss_cons (ps_set (i := 6) scRB.nd rfl (Or.inl rfl) (pe_call (GL bs) hr rfl mL kL bL .nil pass_x (pa_cons (pv 2) (pa_cons (pv 1) (pa_cons (pv 4) (pa_cons (pv 5) pa_nil))))))
        (pss_cons (ps_dput hu (pv 4) (pe_fld (pv 6) rfl) pe_bl rfl)
        (pss_cons (ps_if (pt_cmpR op_eq (pe_fld (pv 6) rfl) (pe_con0 TB.cOP) (nomark _)) (pss_one (ps_aug (i := 5) scRB.nd rfl (Or.inl rfl) pe_int ip_add)) pss_nil)
        (pss_cons (ps_if (pt_cmpR op_eq (pe_fld (pv 6) rfl) (pe_con0 TB.cCL) (nomark _)) (pss_one (ps_aug (i := 5) scRB.nd rfl (Or.inl rfl) pe_int ip_sub)) pss_nil)
        (pss_one (ps_expr (pe_bm PySem.F.plainAttrs_list PySem.F.slot_list_append PySem.F.type_list_append mt_append (pe_ix ix_list (pv 3) (pe_un un_neg pe_int) (fun _ _ => rfl)) (pa_cons (pv 6) pa_nil))))))),
        fun r gl d D pre g us wt q m ga kvs v6 H1 S nr ngl nd hus hgl hm k1 kn => ?_⟩
      obtain ⟨m, rfl⟩ : ∃ m', m = m' + 1 := ⟨m - 1, by omega⟩
      rw [book_lay] at k1
      refine to_call (vls_cons (val_var rfl) (vls_cons (val_var rfl) (vls_cons (val_var rfl) (vls_cons (val_var rfl) vls_nil)))) ⟨r, a, d, true, q, n, wt, us, kvs, rfl, S.dic, S.dp, S.rs, ?_⟩
      cases e5 : layAt n us wt q (bs.drop q) with
      | error z =>
        rw [e5] at k1
        exact fun dx H'' h1 h2 => k1 dx H'' h1 (same_keep S.same nr h2)
      | ok z =>
        obtain ⟨x, q5, u5⟩ := z
        obtain ⟨rfl, g5, g6⟩ := (suf_lay S.rs.le).ok e5
        rw [e5, bndE_ok] at k1
        obtain ⟨hx1, hx2, hx3, hx4⟩ := lay_ok e5
        intro v5 H5 hv5 x5 kp5
        obtain ⟨y, dy, rfl, hy⟩ := hv5
        obtain ⟨dr, hor⟩ := S.rs.obj
        obtain ⟨d5, ho5⟩ := x5.obj
        have s5 : Same H H5 := same_keep S.same nr kp5
        have ndr : d ≠ r := ne_of S.dic hor (by intro z; cases z)
        have hd5 := kp5 _ _ S.dic ndr
        have hl5 := kp5 _ _ S.lst (ne_of S.lst hor (by intro z; cases z))
        have rep5 : RepB cb (pre ++ [g]) ga H5 := S.rep.to (fun a xs _ e => kp5 _ _ e (ne_of e hor (by intro z; cases z))) fun _ _ q => q.keep kp5 hor
        have hln : kvs.length < sizeLine := by
          rw [S.dp.1]
          exact Nat.lt_of_le_of_lt (by omega : us.length ≤ 16) (by decide)
        refine ⟨_, rfl, _, rfl, y, cb.LL, dy, _, _, rfl, hy, TB.clL, TB.nNu, lf_number _ _ _, d, _, rfl, DPut.k (k := Sum.inl (x.leaf : Int)) hd5 hln, ?_⟩
        generalize hH6 : upd H5 d (.dK (putK kvs (Sum.inl (x.leaf : Int)) (.bl true))) = H6
        have u6 : ∀ z o, H5 z = some o → z ≠ d → H6 z = some o := fun z o h nz => by rw [← hH6, upd_ne nz]; exact h
        have s6 : Same H H6 := fun z o h => u6 z o (s5 z o h) (ne_of_none h nd)
        have hy6 := u6 _ _ hy (ne_of hy hd5 (by intro z; cases z))
        have S6 : BSt K c cb bs H a r gl d n (pre ++ [g]) (x.leaf :: us) q5 ga (putK kvs (Sum.inl (x.leaf : Int)) (.bl true)) H6 :=
          ⟨u6 _ _ hl5 (ne_of hl5 hd5 (by intro z; cases z)), S.out, rep5.to (fun a xs _ e => u6 _ _ e (ne_of e hd5 (by intro z; cases z))) (fun _ _ q => by rw [← hH6]; exact q.put hd5 (fun _ _ _ z => nomatch z)), by rw [← hH6]; exact upd_same, S.dp.put hx3,
            ⟨⟨d5, u6 _ _ ho5 (Ne.symm ndr)⟩, s6.seq ha, x5.le, hsz⟩, s6, by simp; omega, S.fre⟩
        have hsg : ∀ σ' : L2.St, σ'[6]? = some (some (.ref y)) → Val (tFld K (tVar 6) "sign") σ' H6 (.int (sgB x.sign : Int)) := fun σ' h => val_fld (val_var h) hy6 TB.clL TB.nSi (lf_sign _ _ _)
        have fin : ∀ wt', wt' = nextW wt x → tDrop (tBM K "list" rAppend (tOp (rIxL K) (tVar 3) (tUn (rU fun i => .int (-i)) (tC (.int 1)))) (tCons (tVar 6) tNil)) D
            [some (.ref a), some (.int (n : Int)), some (.ref r), some (.ref gl), some (.ref d), some (.int (wt' : Int)), some (.ref y)] H6 := by
          rintro wt' rfl
          exact rb_app (X := cxX P w K mg base NB "read_book" (defScope sRB) f cdv A outer s H E) rfl rfl rfl rfl S6 ⟨y, dy, rfl, hy6⟩ (by omega) ha fun H7 S7 => kn x q5 m _ _ H7 S7 (by omega) k1
        rcases hx4 with hs | hs | ⟨hs, hw0⟩
        · refine to_if (tst_eqI (hsg _ rfl) val_c) (fun hz => ?_) fun hz => ?_
          · refine ⟨_, rfl, _, _, rfl, rfl, ?_⟩
            refine to_if (tst_eqI (hsg _ rfl) val_c) (fun hz => ?_) fun hz => ?_
            · rw [decide_eq_true_iff, sg_close, hs] at hz
              cases hz
            · exact fin (wt + 1) (by unfold nextW; rw [if_pos hs])
          · rw [decide_eq_false_iff_not, sg_open] at hz
            exact absurd hs hz
        · refine to_if (tst_eqI (hsg _ rfl) val_c) (fun hz => ?_) fun hz => ?_
          · rw [decide_eq_true_iff, sg_open, hs] at hz
            cases hz
          · refine to_next ?_
            dsimp only
            refine to_if (tst_eqI (hsg _ rfl) val_c) (fun hz => ?_) fun hz => ?_
            · rw [decide_eq_true_iff, sg_close, hs] at hz
              cases hz
            · refine to_next ?_
              exact fin wt (by unfold nextW; rw [hs, if_neg (by simp), if_neg (by simp)])
        · refine to_if (tst_eqI (hsg _ rfl) val_c) (fun hz => ?_) fun hz => ?_
          · rw [decide_eq_true_iff, sg_open, hs] at hz
            cases hz
          · refine to_next ?_
            dsimp only
            refine to_if (tst_eqI (hsg _ rfl) val_c) (fun hz => ?_) fun hz => ?_
            · refine ⟨_, rfl, _, _, rfl, rfl, ?_⟩
              have e : (wt : Int) - 1 = ((wt - 1 : Nat) : Int) := by omega
              have := fin (wt - 1) (by unfold nextW; rw [hs, if_neg (by simp), if_pos rfl])
              rw [← e] at this
              exact this
            · rw [decide_eq_false_iff_not, sg_close] at hz
              exact absurd hs hz
    obtain ⟨t, ht, htail⟩ := tail
    refine ⟨_, pss_cons (ps_set (i := 2) scRB.nd rfl (Or.inl rfl) (pe_make RD.MR RD.GI hr2 rfl T.mgR RD.bI .nil pass_x (pa_cons (pv 0) (pa_cons pe_bl pa_nil))))
      (pss_cons (ps_set (i := 3) scRB.nd rfl (Or.inl rfl) (pe_lst (pa_cons (pe_lst pa_nil) pa_nil)))
      (pss_cons (ps_set (i := 4) scRB.nd rfl (Or.inl rfl) pe_dnewK)
      (pss_cons (ps_set (i := 5) scRB.nd rfl (Or.inl rfl) pe_int)
      (pss_cons (ps_while passes_own_x (pt_cmpR op_lt (pe_callB call_lenD (by rfl) T.nolen PySem.boot_len (pa_cons (pv 4) pa_nil)) (pv 1) (nomark _))
        (pss_cons (ps_if (PW.pt (pw_and (pt_cmpR op_gt (pe_callB call_lenD (by rfl) T.nolen PySem.boot_len (pa_cons (pv 4) pa_nil)) pe_int (nomark _)) (pw_and1 (pt_val (pe_call (GW bs) hr5 rfl mW kW bW .nil pass_x (pa_cons (pv 2) (pa_cons (pv 5) pa_nil)))))))
          (pss_one (ps_expr (pe_bm PySem.F.plainAttrs_list PySem.F.slot_list_append PySem.F.type_list_append mt_append (pv 3) (pa_cons (pe_lst pa_nil) pa_nil)))) pss_nil) ht))
      (pss_cons (ps_if (PW.pt (pw_or (pt_cmpR op_gt (pv 5) pe_int (nomark _)) (pw_or1 (pt_cmpR op_ne (pe_meth0 (pv 2) T.clR (RD.M bs).mB (RD.M bs).gB hr1 (RD.M bs).bB .nil pass_x) (pe_con0 T.cEND) (nomark _)))))
          (pss_one (ps_expr (pe_meth (pv 2) T.clR (RD.M bs).mF (RD.M bs).gF hr3 (RD.M bs).bF .nil pass_x (pa_cons (pe_fld (pv 2) rfl) pa_nil)))) pss_nil)
      (pss_one (ps_ret (pv 3)))))))), ?_⟩
    -- the reader, the empty book
    refine ⟨_, rfl, fun r dr nr nd ne => ⟨r, dr, a, true, rfl, upd_same, fun H1 ho1 kp1 => ⟨rfl, ?_⟩⟩⟩
    have s1 : Same H H1 := Same.made nr nd kp1
    refine ⟨Nat.zero_le _, fun al nal => ⟨by show 1 ≤ sizeLine; decide, fun gl ngl => fun d ndd => to_set val_c ?_⟩⟩
    have nalg : gl ≠ al := fun z => by
      rw [z, upd_same] at ngl
      cases ngl
    have sA : Same H1 (upd H1 al (.lst [])) := fun z o h => by rw [upd_ne (ne_of_none h nal)]; exact h
    have sG : Same (upd H1 al (.lst [])) (upd (upd H1 al (.lst [])) gl (.lst [.ref al])) := fun z o h => by rw [upd_ne (ne_of_none h ngl)]; exact h
    have sD : Same (upd (upd H1 al (.lst [])) gl (.lst [.ref al])) (upd (upd (upd H1 al (.lst [])) gl (.lst [.ref al])) d (.dK [])) := fun z o h => by rw [upd_ne (ne_of_none h ndd)]; exact h
    have sAll := ((s1.trans sA).trans sG).trans sD
    have S0 : BSt K c cb bs H a r gl d n ([] ++ [[]]) [] 0 [al] [] (upd (upd (upd H1 al (.lst [])) gl (.lst [.ref al])) d (.dK [])) :=
      ⟨sD _ _ upd_same, by simpa using nalg, ⟨rfl, by simp, fun i g e => by
          cases i with
          | zero =>
            cases e
            exact ⟨al, [], rfl, sD _ _ (sG _ _ upd_same), rfl, fun j y q => by simp at q⟩
          | succ i => simp at e⟩, upd_same, DP.nil, ⟨⟨dr, sD _ _ (sG _ _ (sA _ _ ho1))⟩, sAll.seq ha, Nat.zero_le _, hsz⟩, sAll, Nat.zero_le _, fun l hl => by
          simp only [List.mem_cons, List.not_mem_nil, or_false] at hl
          subst hl
          exact s1.free nal⟩
    have nglH : H gl = none := (s1.trans sA).free ngl
    have ndH : H d = none := ((s1.trans sA).trans sG).free ndd
    refine to_while (fun m σ' H' => ∃ (pre : Book) (g : List Lies) (us : List Nat) (wt q fu : Nat) (ga : List Addr) (kvs : List (Key × V)) (v6 : Option V), m = n - us.length ∧
      σ' = [some (.ref a), some (.int (n : Int)), some (.ref r), some (.ref gl), some (.ref d), some (.int (wt : Int)), v6] ∧ BSt K c cb bs H a r gl d n (pre ++ [g]) us q ga kvs H' ∧ pre.length + g.length ≤ us.length ∧ (us ≠ [] → 1 ≤ g.length) ∧
      (us = [] → bs.length - q + 1 ≤ fu) ∧ (us ≠ [] → bs.length - q ≤ fu) ∧ RBk c cb (preB pre (headFrom n fu us wt g q (bs.drop q))) H Q E)
      ⟨[], [], [], 0, 0, bs.length + 1, [al], [], none, rfl, rfl, S0, Nat.le_refl _, fun z => absurd rfl z, fun _ => Nat.le_refl _, fun z => absurd rfl z, ?_⟩ ?_
    · unfold headFrom preB
      rw [if_pos rfl, List.drop_zero]
      unfold readBook at k
      cases e : bookAt n (bs.length + 1) [] 0 [] 0 bs with
      | error z => rw [e] at k; exact k
      | ok z => rw [e] at k; exact k
    rintro m σ' H' ⟨pre, g, us, wt, q, fu, ga, kvs, v6, rfl, rfl, S, hpre, hg, hf1, hf2, k'⟩
    refine ⟨_, tst_i (valLen rfl S.dic) (val_var rfl), fun hc => ?_, fun hc => ?_⟩
    · rw [decide_eq_true_iff, S.dp.1] at hc
      have hus : us.length < n := by omega
      have next : ∀ (D : Ends) (pre2 : Book) (g2 : List Lies) (q2 : Nat) (ga2 : List Addr) (H2 : Hp), D.nx = (fun σ' H' => ∃ m', m' < n - us.length ∧ ∃ (pre : Book) (g : List Lies) (us : List Nat) (wt q fu : Nat) (ga : List Addr) (kvs : List (Key × V)) (v6 : Option V), m' = n - us.length ∧
          σ' = [some (.ref a), some (.int (n : Int)), some (.ref r), some (.ref gl), some (.ref d), some (.int (wt : Int)), v6] ∧ BSt K c cb bs H a r gl d n (pre ++ [g]) us q ga kvs H' ∧ pre.length + g.length ≤ us.length ∧ (us ≠ [] → 1 ≤ g.length) ∧
          (us = [] → bs.length - q + 1 ≤ fu) ∧ (us ≠ [] → bs.length - q ≤ fu) ∧ RBk c cb (preB pre (headFrom n fu us wt g q (bs.drop q))) H Q E) → BSt K c cb bs H a r gl d n (pre2 ++ [g2]) us q2 ga2 kvs H2 → pre2.length + g2.length ≤ us.length →
          bs.length - q2 + 1 ≤ fu → RBk c cb (preB pre2 (bookAt n fu us wt g2 q2 (bs.drop q2))) H Q E → t D [some (.ref a), some (.int (n : Int)), some (.ref r), some (.ref gl), some (.ref d), some (.int (wt : Int)), v6] H2 := by
        intro D pre2 g2 q2 ga2 H2 hD S2 hp2 hf k2
        refine htail r gl d D pre2 g2 us wt q2 fu ga2 kvs v6 H2 S2 nr nglH ndH hus (by omega) hf k2 fun x q' m' kvs' v6' H3 S3 hm' k3 => ?_
        rw [hD]
        refine ⟨n - (x.leaf :: us).length, by simp; omega, pre2, g2 ++ [x], x.leaf :: us, nextW wt x, q', m', ga2, kvs', v6', rfl, rfl, S3, by simp; omega, fun _ => by simp, (fun z => nomatch z), fun _ => hm', ?_⟩
        unfold headFrom
        rw [if_neg (fun z => nomatch z)]
        exact k3
      refine to_and (tst_i (valLen rfl S.dic) val_c) (fun hz => ?_) fun hz => ?_
      · rw [decide_eq_true_iff, S.dp.1] at hz
        have hne : us ≠ [] := fun z => by rw [z] at hz; simp at hz
        unfold headFrom at k'
        rw [if_neg hne, sep_ends2 hus (hf2 hne)] at k'
        refine to_call (vls_cons (val_var rfl) (vls_cons (val_var rfl) vls_nil)) ⟨r, a, true, q, wt, rfl, S.rs, ?_⟩
        have hfu := hf2 hne
        cases e5 : endsAt wt q (bs.drop q) with
        | error z =>
          rw [e5] at k'
          exact fun dx H'' h1 h2 => k' dx H'' h1 (same_keep S.same nr h2)
        | ok z =>
          obtain ⟨b, q5, u5⟩ := z
          obtain ⟨rfl, g5, g6⟩ := (suf_ends S.rs.le).ok e5
          rw [e5, bndE_ok] at k'
          intro v5 H5 hv5 x5 kp5
          obtain rfl : v5 = .bl b := hv5
          obtain ⟨dq, hor⟩ := S.rs.obj
          obtain ⟨d5, ho5⟩ := x5.obj
          have s5 : Same H H5 := same_keep S.same nr kp5
          have hd5 := kp5 _ _ S.dic (ne_of S.dic hor (by intro z; cases z))
          have hl5 := kp5 _ _ S.lst (ne_of S.lst hor (by intro z; cases z))
          have rep5 : RepB cb (pre ++ [g]) ga H5 := S.rep.to (fun a xs _ e => kp5 _ _ e (ne_of e hor (by intro z; cases z))) fun _ _ q => q.keep kp5 hor
          have S5 : BSt K c cb bs H a r gl d n (pre ++ [g]) us q5 ga kvs H5 := ⟨hl5, S.out, rep5, hd5, S.dp, x5, s5, S.le, S.fre⟩
          refine ⟨b, rfl, ?_⟩
          cases b with
          | true =>
            rw [if_pos rfl]
            rw [if_pos rfl] at k'
            refine ⟨_, rfl, .inl ⟨rfl, _, SqL.of hl5⟩, Nat.zero_le _, fun z nz => ⟨gl, _, _, rfl, rfl, by rw [upd_ne (ne_of_none hl5 nz)]; exact hl5, ?_, ?_⟩⟩
            · rw [List.length_map, S.rep.len, List.length_append, List.length_singleton]
              exact Nat.lt_of_le_of_lt (by omega : pre.length + 1 ≤ 17) (by decide)
            · have nzg : z ≠ gl := Ne.symm (ne_of_none hl5 nz)
              have rep6 := rep5.open_ nz
              have hglz : upd H5 z (.lst []) gl = some (.lst (ga.map V.ref)) := by rw [upd_ne (Ne.symm nzg)]; exact hl5
              have nzH : H z = none := s5.free nz
              have s6 : Same H (upd (upd H5 z (.lst [])) gl (.lst (ga.map V.ref ++ [.ref z]))) := fun y o h => by
                rw [upd_ne (ne_of_none h nglH), upd_ne (ne_of_none h nzH)]
                exact s5 y o h
              have ngz : gl ∉ ga ++ [z] := by
                simp only [List.mem_append, List.mem_cons, List.not_mem_nil, or_false]
                rintro (h | h)
                · exact S.out h
                · exact nzg h.symm
              have S6 : BSt K c cb bs H a r gl d n ((pre ++ [g]) ++ [[]]) us q5 (ga ++ [z]) kvs (upd (upd H5 z (.lst [])) gl (.lst (ga.map V.ref ++ [.ref z]))) :=
                ⟨by rw [upd_same]; simp, ngz, rep6.to (fun a xs m e => by rw [upd_ne (fun h => ngz (by rw [← h]; exact m))]; exact e) (fun _ _ q => q.put hglz (fun _ _ _ z => nomatch z)), by
                    rw [upd_ne (ne_of hd5 hl5 (by intro z; cases z)), upd_ne (ne_of_none hd5 nz)]; exact hd5, S.dp,
                  ⟨⟨d5, by rw [upd_ne (ne_of ho5 hl5 (by intro z; cases z)), upd_ne (ne_of_none ho5 nz)]; exact ho5⟩, s6.seq ha, x5.le, hsz⟩, s6, S.le, fun l hl => by
                    simp only [List.mem_append, List.mem_cons, List.not_mem_nil, or_false] at hl
                    rcases hl with hl | rfl
                    · exact S.fre l hl
                    · exact nzH⟩
              refine next _ (pre ++ [g]) [] q5 (ga ++ [z]) _ rfl S6 ?_ (by omega) ?_
              · have := hg hne
                simp
                omega
              · cases e6 : bookAt n fu us wt [] q5 (bs.drop q5) with
                | error y => rw [e6] at k'; exact k'
                | ok y =>
                  rw [e6] at k'
                  show RBk c cb (.ok (pre ++ [g] ++ y)) H Q E
                  rw [List.append_assoc]
                  exact k'
          | false =>
            rw [if_neg Bool.false_ne_true]
            rw [if_neg Bool.false_ne_true] at k'
            exact next _ pre g q5 ga H5 rfl S5 hpre (by omega) k'
      · rw [decide_eq_false_iff_not, S.dp.1] at hz
        have hus0 : us = [] := List.eq_nil_of_length_eq_zero (by omega)
        rw [if_neg Bool.false_ne_true]
        unfold headFrom at k'
        rw [if_pos hus0] at k'
        exact next _ pre g q ga H' rfl S hpre (hf1 hus0) k'
    · rw [decide_eq_false_iff_not, S.dp.1] at hc
      have hle := S.le
      have hlen : us.length = n := by omega
      unfold headFrom at k'
      rw [if_neg (fun z => by rw [z] at hlen; simp at hlen; omega), sep_end hlen] at k'
      have hbe := byte_end S.rs.le
      refine to_if (tst_or (tst_i (val_var rfl) val_c) fun _ => tst_neI (val_byte S.rs rfl) val_c) (fun hz => ?_) fun hz => ?_
      · rw [Bool.or_eq_true, decide_eq_true_iff, Bool.not_eq_true', decide_eq_false_iff_not, hbe] at hz
        rw [if_neg (by rintro ⟨z1, z2⟩; rcases hz with hz | hz; · omega
                       · exact hz z1)] at k'
        refine to_fail (rep := isB) (Q := Q) S.rs rfl (val_place T S.rs rfl) ?_
        exact fun dx H'' h1 h2 => k' dx H'' h1 (same_keep S.same nr h2)
      · rw [Bool.or_eq_false_iff, decide_eq_false_iff_not, Bool.not_eq_false', decide_eq_true_iff, hbe] at hz
        rw [if_pos ⟨hz.2, by omega⟩] at k'
        refine to_next ?_
        dsimp only
        exact to_ret (val_var rfl) (k' _ _ ⟨gl, ga, rfl, S.lst, S.rep⟩ S.same)
end
end Desk
end
section
set_option Elab.async false
set_option linter.all false
set_option maxRecDepth 100000
namespace Desk
open PySem PySem.Spec PyProof.Rows L2
open Quire (Bytes Sign)
open QuireSeen (Rd number Side letterAt charAt Lies Book bookAt readBook readFindings Findings Finding LEAVES)
theorem findings_n {t : Bytes} {F : Findings} (h : readFindings t = .ok F) : 1 ≤ F.n ∧ F.n ≤ 16 := by
  unfold readFindings at h
  generalize number 0 t = rr at h
  rcases rr with e | ⟨n, q, u⟩
  · cases h
  · dsimp only at h
    by_cases hn : n < 1 ∨ LEAVES < n
    · rw [if_pos hn] at h
      cases h
    · rw [if_neg hn] at h
      generalize charAt 10 q u = rr at h
      rcases rr with e | ⟨_, q, u⟩
      · cases h
      · dsimp only at h
        split at h
        · cases h
        · cases h
          have : LEAVES = 16 := rfl
          dsimp only
          omega
/-! ### a case -/
def cf (n : Nat) (l gl : Addr) : List (Str × V) := [("leaves", .int (n : Int)), ("findings", .ref l), ("gatherings", .ref gl)]
theorem cf_leaves (n : Nat) (l gl : Addr) : (cf n l gl).lookup ("leaves" : Str) = some (.int (n : Int)) := by
  simp only [cf, List.lookup, beq_self_eq_true]
theorem cf_findings (n : Nat) (l gl : Addr) : (cf n l gl).lookup ("findings" : Str) = some (.ref l) := by
  have e : (("findings" : Str) == ("leaves" : Str)) = false := by decide +kernel
  simp only [cf, List.lookup, e, beq_self_eq_true]
theorem cf_gath (n : Nat) (l gl : Addr) : (cf n l gl).lookup ("gatherings" : Str) = some (.ref gl) := by
  have e : (("gatherings" : Str) == ("leaves" : Str)) = false := by decide +kernel
  have e1 : (("gatherings" : Str) == ("findings" : Str)) = false := by decide +kernel
  simp only [cf, List.lookup, e, e1, beq_self_eq_true]
theorem cf_make (n : Nat) (l gl : Addr) : putF "gatherings" (.ref gl) (putF "findings" (.ref l) (putF "leaves" (.int (n : Int)) [])) = cf n l gl := by
  have e : ¬ (("leaves" : Str) = ("findings" : Str)) := by decide +kernel
  have e1 : ¬ (("leaves" : Str) = ("gatherings" : Str)) := by decide +kernel
  have e2 : ¬ (("findings" : Str) = ("gatherings" : Str)) := by decide +kernel
  simp only [cf, putF, if_neg e, if_neg e1, if_neg e2]
structure RepK (c : Cs) (cb : Cb) (F : Findings) (B : Book) (H : Hp) (x dx l : Addr) (vs : List V) (gl : Addr) (ga : List Addr) : Prop where
  obj : H x = some (.ins cb.Ca dx (cf F.n l gl))
  lst : H l = some (.lst vs)
  rl : RepL c F.l vs H
  gat : H gl = some (.lst (ga.map V.ref))
  rb : RepB cb B ga H
/-- the Case stands at v -/
def RepCa (c : Cs) (cb : Cb) (F : Findings) (B : Book) (v : V) (H : Hp) : Prop := ∃ x dx l vs gl ga, v = .ref x ∧ RepK c cb F B H x dx l vs gl ga
section
variable {P : Program} {w : World} {K : PySem.W.Frag} {mg : Str → Option Value} {base : Heap} {c : Cs} {cb : Cb}
def spCInit (c : Cs) (cb : Cb) : Sp := fun vs H Q _ => ∃ x dx y dy n l gl, vs = [.ref x, .ref y, .ref gl] ∧ H x = some (.ins cb.Ca dx []) ∧ H y = some (.ins c.S dy (sf n l)) ∧ ∀ H', H' x = some (.ins cb.Ca dx (cf n l gl)) → Keep x H H' → Q .non H'
theorem scCI : FnScope ["self", "seen", "gatherings"] ["self", "seen", "gatherings"] (defScope sCaInit) := ⟨rfl, rfl, rfl, by decide +kernel, rfl, by decide +kernel, by decide +kernel⟩
theorem ok_cainit {f : Addr} {fd : FuncData} (F : Fun K "__init__" "Case.__init__" sCaInit f fd) (T : Txt K mg c) (TB : TxtB K mg cb) : FnOk P w K mg base (CXx P w) 1 f fd ["self", "seen", "gatherings"] (spCInit c cb) := by
  refine F.okx scCI (fun vs H Q E h => ?_) (fun cdv A outer s H vs Q E hr h => ?_)
  · obtain ⟨x, dx, y, dy, n, l, gl, rfl, _⟩ := h
    rfl
  · obtain ⟨x, dx, y, dy, n, l, gl, rfl, ho, hy, k⟩ := h
    have nxy : y ≠ x := fun z => by
      rw [z, ho] at hy
      injection hy with hy
      injection hy with _ _ hy
      cases hy
    refine ⟨_, pss_cons (ps_fld (pv 0) (pe_fld (pv 1) rfl) rfl) (pss_cons (ps_fld (pv 0) (pe_fld (pv 1) rfl) rfl) (pss_one (ps_fld (pv 0) (pv 2) rfl))), ?_⟩
    refine ⟨_, rfl, y, c.S, dy, _, _, rfl, hy, T.clS, T.nLv, sf_leaves n l, _, rfl, x, cb.Ca, dx, _, rfl, ho, TB.clC, TB.nLv, (by show 0 < 1000; decide), ?_⟩
    refine ⟨_, rfl, y, c.S, dy, _, _, rfl, by rw [upd_ne nxy]; exact hy, T.clS, T.nFs, sf_findings n l, _, rfl, x, cb.Ca, dx, _, rfl, upd_same, TB.clC, TB.nFs, (by show 1 < 1000; decide), ?_⟩
    refine ⟨_, rfl, _, rfl, x, cb.Ca, dx, _, rfl, upd_same, TB.clC, TB.nGa, Nat.lt_of_le_of_lt (Nat.le_trans (length_putF _ _ _) (Nat.add_le_add_right (length_putF _ _ _) 1)) (by decide), ?_⟩
    refine k _ (upd_same.trans ?_) fun x o h n => by rw [upd_ne n, upd_ne n, upd_ne n]; exact h
    exact congrArg (fun q => some (HO.ins cb.Ca dx q)) (cf_make n l gl)
/-- t and u are refused so -/
def Refu (t u : Bytes) (zs : List Int) : Prop := ((8192 < t.length ∨ 8192 < u.length) ∧ zs = [-2]) ∨ (¬ (8192 < t.length ∨ 8192 < u.length) ∧ ((∃ e : Nat, readFindings t = .error e ∧ zs = [-6, (e : Int)]) ∨ ∃ (F : Findings) (e : Nat), readFindings t = .ok F ∧ readBook F.n u = .error e ∧ zs = [-3, (e : Int)]))
def RCs (K : PySem.W.Frag) (c : Cs) (cb : Cb) (t u : Bytes) (H : Hp) (Q : VK) (E : XK) : Prop :=
  (∀ zs C dx H', Refu t u zs → (C = c.L ∨ C = c.F ∨ C = c.B) → Ans H' dx zs → Same H H' → E (.ref C) (some dx) H') ∧
  ∀ F B v H', ¬ (8192 < t.length ∨ 8192 < u.length) → readFindings t = .ok F → readBook F.n u = .ok B → RepCa c cb F B v H' → Same H H' → Q v H'
def spCase (K : PySem.W.Frag) (c : Cs) (cb : Cb) : Sp := fun vs H Q E => ∃ (a b : Addr) (t u : Bytes), vs = [.ref a, .ref b] ∧ SqL K H a (tx t) ∧ t.length ≤ 16384 ∧ SqL K H b (tx u) ∧ u.length ≤ 16384 ∧ RCs K c cb t u H Q E
theorem scCs : FnScope ["t", "u", "seen"] ["t", "u"] (defScope sCase) := ⟨rfl, rfl, rfl, by decide +kernel, rfl, by decide +kernel, by decide +kernel⟩
theorem ok_case {f fH fR fB fC : Addr} {fd dH dR dB dC : FuncData} (F : Fun K "read_case" "read_case" sCase f fd) (T : Txt K mg c) (TB : TxtB K mg cb) (G : Gts P w K mg base c fH fR dH dR)
    (GB : FnOk P w K mg base (CXx P w) 7 fB dB ["text", "leaves"] (spRB K c cb)) (bB : Binds K dB ["text", "leaves"] []) (kB : PySem.W.keepIn K (.ref fB) = true) (mB : mg "read_book" = some (.ref fB))
    (MC : Mk K cb.Ca fC) (GC : FnOk P w K mg base (CXx P w) 1 fC dC ["self", "seen", "gatherings"] (spCInit c cb)) (bC : Binds K dC ["self", "seen", "gatherings"] []) : FnOk P w K mg base (CXx P w) 11 f fd ["t", "u"] (spCase K c cb) := by
  refine F.okx scCs (fun vs H Q E h => ?_) (fun cdv A outer s H vs Q E hr h => ?_)
  · obtain ⟨a, b, t, u, rfl, _⟩ := h
    rfl
  · obtain ⟨a, b, t, u, rfl, ha, hsa, hb, hsb, k1, k2⟩ := h
    have hr2 : Room 2 _ := hr.mono (by decide)
    have hr3 : Room 3 _ := hr.mono (by decide)
    have hr7 : Room 7 _ := hr.mono (by decide)
    refine ⟨_, pss_cons (ps_expr (pe_call G.gH hr3 rfl G.mH G.kH G.bH .nil pass_x (pa_cons (pv 0) pa_nil))) (pss_cons (ps_expr (pe_call G.gH hr3 rfl G.mH G.kH G.bH .nil pass_x (pa_cons (pv 1) pa_nil)))
      (pss_cons (ps_set (i := 2) scCs.nd rfl (Or.inl rfl) (pe_call G.gR hr rfl G.mR G.kR G.bR .nil pass_x (pa_cons (pv 0) pa_nil)))
      (pss_one (ps_ret (pe_make MC GC hr2 rfl TB.mgC bC .nil pass_x (pa_cons (pv 2) (pa_cons (pe_call GB hr7 rfl mB kB bB .nil pass_x (pa_cons (pv 1) (pa_cons (pe_fld (pv 2) rfl) pa_nil))) pa_nil))))))), ?_⟩
    refine to_call (vls_cons (val_var rfl) vls_nil) ⟨a, t, rfl, ha, fun ht => ?_, fun ht dx H' h1 h2 => k1 [-2] c.L dx H' (.inl ⟨.inl ht, rfl⟩) (.inl rfl) h1 h2⟩
    refine to_call (vls_cons (val_var rfl) vls_nil) ⟨b, u, rfl, hb, fun hu => ?_, fun hu dx H' h1 h2 => k1 [-2] c.L dx H' (.inl ⟨.inr hu, rfl⟩) (.inl rfl) h1 h2⟩
    have hns : ¬ (8192 < t.length ∨ 8192 < u.length) := by omega
    refine to_call (vls_cons (val_var rfl) vls_nil) ⟨a, t, rfl, ha, hsa, ?_⟩
    cases hF : readFindings t with
    | error e => exact fun dx H' h1 h2 => k1 [-6, (e : Int)] c.F dx H' (.inr ⟨hns, .inl ⟨e, hF, rfl⟩⟩) (.inr (.inl rfl)) h1 h2
    | ok Fs =>
      rintro v H1 ⟨y, dy, l, vs, rfl, hy, hl, hL⟩ s1
      obtain ⟨hn1, hn2⟩ := findings_n hF
      refine ⟨_, rfl, ?_⟩
      refine to_call (vls_cons (val_var rfl) (vls_cons (val_fld (val_var rfl) hy T.clS T.nLv (sf_leaves _ _)) vls_nil)) ⟨b, Fs.n, u, rfl, hn1, hn2, s1.seq hb, hsb, ?_⟩
      cases hB : readBook Fs.n u with
      | error e => exact fun dx H' h1 h2 => k1 [-3, (e : Int)] c.B dx H' (.inr ⟨hns, .inr ⟨Fs, e, hF, hB, rfl⟩⟩) (.inr (.inr rfl)) h1 (s1.trans h2)
      | ok B =>
        rintro v H2 ⟨gl, ga, rfl, hgl, hG⟩ s2
        refine fun z dz nz nd ne => ⟨z, dz, y, dy, Fs.n, l, gl, rfl, upd_same, ?_, fun H3 hz kp => ⟨rfl, ?_⟩⟩
        · have hy2 := s2 _ _ hy
          rw [upd_ne (ne_of_none hy2 nz), upd_ne (ne_of_none hy2 nd)]
          exact hy2
        · have s3 : Same H2 H3 := Same.made nz nd kp
          exact k2 Fs B _ H3 hns hF hB ⟨z, dz, l, vs, gl, ga, rfl, hz, s3 _ _ (s2 _ _ hl), (hL.same s2).same s3, s3 _ _ hgl, hG.same s3⟩ ((s1.trans s2).trans s3)
/-- the calls' try: case = read_case(t, u) -/
theorem to_case {D : Ends} {σ : L2.St} {H : Hp} {a b : Addr} {t u : Bytes} {i j : Nat} {ta : TA} {th : TS} (T : Txt K mg c) (eL : PySem.W.exmAny K (.ref c.L) [.ref c.L, .ref c.F, .ref c.B] = some true) (eF : PySem.W.exmAny K (.ref c.F) [.ref c.L, .ref c.F, .ref c.B] = some true)
    (eB : PySem.W.exmAny K (.ref c.B) [.ref c.L, .ref c.F, .ref c.B] = some true) (hs : Vls ta σ H [.ref a, .ref b]) (ha : SqL K H a (tx t)) (hsa : t.length ≤ 16384) (hb : SqL K H b (tx u)) (hsb : u.length ≤ 16384)
    (hok : ∀ F B v H', ¬ (8192 < t.length ∨ 8192 < u.length) → readFindings t = .ok F → readBook F.n u = .ok B → RepCa c cb F B v H' → Same H H' → D.nx (σ.set i (some v)) H')
    (herr : ∀ (zs : List Int) (C dx ea : Addr) (H' : Hp), Refu t u zs → XCls K C "answer" → Ans H' dx zs → H' ea = none → th { nx := fun _ _ => False, rt := D.rt } (σ.set j (some (.ref ea))) (upd H' ea (xc ea C dx))) :
    tTry K [.ref c.L, .ref c.F, .ref c.B] (spCase K c cb) i j ta th D σ H := by
  refine hs _ ⟨a, b, t, u, rfl, ha, hsa, hb, hsb, fun zs C dx H' hz hC hA hS => ?_, fun F B v H' h0 h1 h2 h3 h4 => hok F B v H' h0 h1 h2 h3 h4⟩
  rcases hC with rfl | rfl | rfl
  · exact ⟨_, dx, rfl, rfl, eL, fun ea n => herr zs _ dx ea H' hz T.xL hA n⟩
  · exact ⟨_, dx, rfl, rfl, eF, fun ea n => herr zs _ dx ea H' hz T.xF hA n⟩
  · exact ⟨_, dx, rfl, rfl, eB, fun ea n => herr zs _ dx ea H' hz T.xB hA n⟩
theorem tx_bytes {ns : List Int} (h : ∀ z ∈ ns, 0 ≤ z ∧ z ≤ 255) : tx (QhSeenNeutral.bytes ns) = ns.map V.int := by
  unfold tx QhSeenNeutral.bytes
  rw [List.map_map]
  refine List.map_congr_left fun z hz => ?_
  obtain ⟨h0, h1⟩ := h z hz
  show V.int (((UInt8.ofNat z.toNat).toNat : Nat) : Int) = V.int z
  rw [UInt8.toNat_ofNat_of_lt' (by show z.toNat < 256; omega)]
  exact congrArg V.int (by omega)
theorem len_bytes (ns : List Int) : (QhSeenNeutral.bytes ns).length = ns.length := by
  unfold QhSeenNeutral.bytes
  rw [List.length_map]
/-- refusal.answer, behind the try -/
theorem to_answer {C dx ea : Addr} {H2 : Hp} {σ : L2.St} {i : Nat} {D : Ends} {zs : List Int} (hA : Ans H2 dx zs) (n : H2 ea = none) (hi : σ[i]? = some (some (.ref ea))) (xc0 : XCls K C "answer")
    (k : ∀ H' l, H' l = some (.lst (zs.map V.int)) → D.rt (.ref l) H') : tRet (tXFld K (tVar i) "answer") D σ (upd H2 ea (xc ea C dx)) := by
  obtain ⟨l, h1, h2⟩ := hA
  refine ⟨_, hi, ea, C, dx, _, .ref l, rfl, upd_same, by rw [upd_ne (ne_of_none h1 n)]; exact h1, xc0, by simp, k _ l ?_⟩
  rw [upd_ne (ne_of_none h2 n)]
  exact h2
/-- refusal.answer[:1] -/
theorem to_answer1 {C dx ea : Addr} {H2 : Hp} {σ : L2.St} {i : Nat} {D : Ends} {z : Int} {zs : List Int} (hA : Ans H2 dx (z :: zs)) (n : H2 ea = none) (hi : σ[i]? = some (some (.ref ea))) (xc0 : XCls K C "answer")
    (k : ∀ H' l, H' l = some (.lst [.int z]) → D.rt (.ref l) H') : tRet (tSl (rSlL K) (tXFld K (tVar i) "answer") tNoPart (tPart (tC (.int 1)))) D σ (upd H2 ea (xc ea C dx)) := by
  obtain ⟨l, h1, h2⟩ := hA
  refine ⟨_, hi, ea, C, dx, _, .ref l, rfl, upd_same, by rw [upd_ne (ne_of_none h1 n)]; exact h1, xc0, by simp, ?_⟩
  refine ⟨1, rfl, l, _, rfl, SqL.of (by rw [upd_ne (ne_of_none h2 n)]; exact h2), fun p np => k _ p ?_⟩
  rw [upd_same]
  rfl
end
end Desk
end
section
set_option linter.all false
namespace Desk
open Quire (Bytes Sign Word scan paired mate part)
open QuireSeen (Rd number letterAt charAt isLeafOf Lies Book liesAt bookAt readBook)
/-! ### how many wait -/
def dep : Nat → Word → Option Nat
  | d, [] => some d
  | d, .alone :: r => dep d r
  | d, .opens :: r => dep (d + 1) r
  | d, .closes :: r => match d with
    | 0 => none
    | d + 1 => dep d r
  | _, .stubOpens :: _ => none
  | _, .stubCloses :: _ => none
theorem dep_append : ∀ (u v : Word) (d : Nat), dep d (u ++ v) = (dep d u).bind fun e => dep e v
  | [], v, d => rfl
  | .alone :: r, v, d => dep_append r v d
  | .opens :: r, v, d => dep_append r v (d + 1)
  | .closes :: r, v, 0 => rfl
  | .closes :: r, v, d + 1 => dep_append r v d
  | .stubOpens :: r, v, d => rfl
  | .stubCloses :: r, v, d => rfl
theorem dep_shift : ∀ (u : Word) (d e k : Nat), dep d u = some e → dep (d + k) u = some (e + k)
  | [], d, e, k, h => by
    cases h
    rfl
  | .alone :: r, d, e, k, h => dep_shift r d e k h
  | .opens :: r, d, e, k, h => by
    have := dep_shift r (d + 1) e k h
    rw [Nat.add_right_comm] at this
    exact this
  | .closes :: r, 0, e, k, h => by cases h
  | .closes :: r, d + 1, e, k, h => by
    have := dep_shift r d e k h
    rw [Nat.add_right_comm]
    exact this
  | .stubOpens :: r, d, e, k, h => by cases h
  | .stubCloses :: r, d, e, k, h => by cases h
theorem scan_cons (st : List Sign) (s : Sign) (r : Word) : scan st (s :: r) = if s = .alone then scan st r else if s.ahead = true then scan (s :: st) r else match st with | [] => false | o :: t => !(o == .stubOpens && s == .stubCloses) && scan t r := by
  rw [Quire.scan.eq_def]
  cases st <;> rfl
theorem scan_dep : ∀ (w : Word) (d : Nat), (∀ s ∈ w, s.leaf = true) → scan (List.replicate d .opens) w = (dep d w == some 0)
  | [], 0, _ => rfl
  | [], d + 1, _ => by
    rw [List.replicate_succ]
    rfl
  | .alone :: r, d, h => by
    have := scan_dep r d fun s m => h s (.tail _ m)
    rw [scan_cons, if_pos rfl, this]
    rfl
  | .opens :: r, d, h => by
    have := scan_dep r (d + 1) fun s m => h s (.tail _ m)
    rw [scan_cons, if_neg (by decide), if_pos (by decide), ← List.replicate_succ, this]
    rfl
  | .closes :: r, 0, h => by
    rw [scan_cons, if_neg (by decide), if_neg (by decide)]
    rfl
  | .closes :: r, d + 1, h => by
    have := scan_dep r d fun s m => h s (.tail _ m)
    rw [scan_cons, if_neg (by decide), if_neg (by decide), List.replicate_succ]
    dsimp only
    rw [this]
    rfl
  | .stubOpens :: r, d, h => by
    have := h .stubOpens (.head _)
    cases this
  | .stubCloses :: r, d, h => by
    have := h .stubCloses (.head _)
    cases this
theorem paired_dep {w : Word} (h : ∀ s ∈ w, s.leaf = true) : paired w = (dep 0 w == some 0) := scan_dep w 0 h
/-! ### partners -/
def LfW (w : Word) : Prop := ∀ s ∈ w, s.leaf = true
theorem LfW.part {w : Word} (h : LfW w) (p q : Nat) : LfW (part w p q) := fun s m => h s (List.mem_of_mem_drop (List.mem_of_mem_take m))
theorem part_split {w : Word} {p q r : Nat} {s : Sign} (h1 : p ≤ q) (h2 : q < r) (h : w[q]? = some s) : part w p r = part w p q ++ s :: part w (q + 1) r := by
  unfold part
  have e : w.drop p = (w.drop p).take (q - p) ++ (w.drop p).drop (q - p) := (List.take_append_drop _ _).symm
  have hq := (List.getElem?_eq_some_iff.mp h)
  obtain ⟨hlt, hs⟩ := hq
  have e2 : (w.drop p).drop (q - p) = s :: w.drop (q + 1) := by
    rw [List.drop_drop, show p + (q - p) = q by omega, List.drop_eq_getElem_cons hlt, hs]
  rw [e2] at e
  have hl : ((w.drop p).take (q - p)).length = q - p := by
    rw [List.length_take, List.length_drop]
    omega
  conv => lhs; rw [e]
  rw [List.take_append, hl, List.take_of_length_le (by rw [hl]; omega), show r - p - (q - p) = (r - (q + 1)) + 1 by omega, List.take_succ_cons]
theorem part_self (w : Word) (p : Nat) : part w p p = [] := by
  unfold part
  rw [Nat.sub_self, List.take_zero]
theorem part_snoc {w : Word} {p k : Nat} {s : Sign} (h1 : p ≤ k) (h : w[k]? = some s) : part w p (k + 1) = part w p k ++ [s] := by
  rw [part_split h1 (Nat.lt_succ_self k) h, part_self]
theorem part_all (w : Word) : part w 0 w.length = w := by
  unfold part
  rw [List.drop_zero, Nat.sub_zero, List.take_length]
structure Pr (w : Word) (i j : Nat) : Prop where
  lt : i < j
  op : w[i]? = some .opens
  cl : w[j]? = some .closes
  mid : dep 0 (part w (i + 1) j) = some 0
theorem mate_alone {w : Word} {p : Nat} (h : w[p]? = some .alone) : mate w p = some p := by
  unfold mate
  rw [h]
  rfl
theorem mate_open {w : Word} {i j : Nat} (hw : LfW w) (h : Pr w i j) : mate w i = some j := by
  unfold mate
  rw [h.op]
  rw [Option.bind_some, if_neg (show ¬ (Sign.opens = Sign.alone) by decide), List.find?_range_eq_some]
  refine ⟨?_, List.mem_range.mpr (List.getElem?_eq_some_iff.mp h.cl).1, fun q hq => ?_⟩
  · rw [h.cl]
    dsimp only
    rw [if_pos (by decide), paired_dep (hw.part _ _), h.mid, decide_eq_true h.lt]
    rfl
  · cases e : w[q]? with
    | none => rfl
    | some t =>
      dsimp only
      rw [if_pos (by decide)]
      by_cases hiq : i < q
      · rw [decide_eq_true hiq, paired_dep (hw.part _ _)]
        by_cases ht : t.back = true
        · have et : t = .closes := by
            have := hw t (List.mem_of_getElem? e)
            cases t <;> first | rfl | exact absurd this (by decide) | exact absurd ht (by decide)
          subst et
          have hm := h.mid
          rw [part_split hiq hq e, dep_append] at hm
          cases ed : dep 0 (part w (i + 1) q) with
          | none => rfl
          | some d =>
            rw [ed] at hm
            cases d with
            | zero => cases hm
            | succ d => rfl
        · rw [Bool.not_eq_true] at ht
          rw [ht]
          rfl
      · rw [decide_eq_false hiq]
        rfl
theorem mate_close {w : Word} {i j : Nat} (hw : LfW w) (h : Pr w i j) : mate w j = some i := by
  unfold mate
  rw [h.cl]
  have hlj := (List.getElem?_eq_some_iff.mp h.cl).1
  rw [Option.bind_some, if_neg (show ¬ (Sign.closes = Sign.alone) by decide), List.find?_range_eq_some]
  refine ⟨?_, List.mem_range.mpr (Nat.lt_trans h.lt hlj), fun q hq => ?_⟩
  · rw [h.op]
    dsimp only
    rw [if_neg (by decide), paired_dep (hw.part _ _), h.mid, decide_eq_true h.lt]
    rfl
  · cases e : w[q]? with
    | none => rfl
    | some t =>
      dsimp only
      rw [if_neg (by decide), decide_eq_true (Nat.lt_trans hq h.lt), paired_dep (hw.part _ _)]
      by_cases ht : t.ahead = true
      · rw [part_split hq h.lt h.op, dep_append]
        cases ed : dep 0 (part w (q + 1) i) with
        | none => simp
        | some d =>
          have hm := dep_shift _ _ _ (d + 1) h.mid
          rw [Nat.zero_add] at hm
          have e3 : (Option.bind (some d) fun e => dep e (Sign.opens :: part w (i + 1) j)) = some (d + 1) := by
            show dep (d + 1) (part w (i + 1) j) = _
            exact hm
          rw [e3]
          simp
      · rw [Bool.not_eq_true] at ht
        rw [ht]
        rfl
/-! ### those that wait, by their places, the latest first -/
def Stk (w : Word) : List Nat → Nat → Prop
  | [], k => dep 0 (part w 0 k) = some 0
  | p :: ps, k => p < k ∧ w[p]? = some .opens ∧ dep 0 (part w (p + 1) k) = some 0 ∧ Stk w ps p
theorem stk_alone {w : Word} {ps : List Nat} {k : Nat} (h : Stk w ps k) (e : w[k]? = some .alone) : Stk w ps (k + 1) := by
  cases ps with
  | nil =>
    show dep 0 (part w 0 (k + 1)) = some 0
    rw [part_snoc (Nat.zero_le _) e, dep_append, show dep 0 (part w 0 k) = some 0 from h]
    rfl
  | cons p ps =>
    obtain ⟨h1, h2, h3, h4⟩ := h
    refine ⟨by omega, h2, ?_, h4⟩
    rw [part_snoc h1 e, dep_append, h3]
    rfl
theorem stk_open {w : Word} {ps : List Nat} {k : Nat} (h : Stk w ps k) (e : w[k]? = some .opens) : Stk w (k :: ps) (k + 1) := ⟨Nat.lt_succ_self k, e, by rw [part_self]; rfl, h⟩
theorem stk_close {w : Word} {p : Nat} {ps : List Nat} {k : Nat} (h : Stk w (p :: ps) k) (e : w[k]? = some .closes) : Pr w p k ∧ Stk w ps (k + 1) := by
  obtain ⟨h1, h2, h3, h4⟩ := h
  refine ⟨⟨h1, h2, e, h3⟩, ?_⟩
  have hm := dep_shift _ _ _ 1 h3
  cases ps with
  | nil =>
    show dep 0 (part w 0 (k + 1)) = some 0
    rw [part_snoc (Nat.zero_le _) e, part_split (Nat.zero_le _) h1 h2, dep_append, dep_append, show dep 0 (part w 0 p) = some 0 from h4]
    show (Option.bind (dep 1 (part w (p + 1) k)) fun e => dep e [.closes]) = _
    rw [show dep 1 (part w (p + 1) k) = some 1 from hm]
    rfl
  | cons p1 ps =>
    obtain ⟨g1, g2, g3, g4⟩ := h4
    refine ⟨by omega, g2, ?_, g4⟩
    rw [part_snoc (by omega) e, part_split g1 h1 h2, dep_append, dep_append, g3]
    show (Option.bind (dep 1 (part w (p + 1) k)) fun e => dep e [.closes]) = _
    rw [show dep 1 (part w (p + 1) k) = some 1 from hm]
    rfl
theorem stk_dep {w : Word} : ∀ {ps : List Nat} {k : Nat}, Stk w ps k → dep 0 (part w 0 k) = some ps.length
  | [], k, h => h
  | p :: ps, k, ⟨h1, h2, h3, h4⟩ => by
    have hm := dep_shift _ _ _ (ps.length + 1) h3
    rw [Nat.zero_add] at hm
    rw [part_split (Nat.zero_le _) h1 h2, dep_append, stk_dep h4]
    exact hm
theorem stk_none {w : Word} {k : Nat} (hw : dep 0 w = some 0) (h : Stk w [] k) (e : w[k]? = some .closes) : False := by
  have hlt := (List.getElem?_eq_some_iff.mp e).1
  rw [← part_all w, part_split (Nat.zero_le _) hlt e, dep_append, show dep 0 (part w 0 k) = some 0 from h] at hw
  cases hw
theorem stk_end {w : Word} {ps : List Nat} (hw : dep 0 w = some 0) (h : Stk w ps w.length) : ps = [] := by
  have := stk_dep h
  rw [part_all, hw] at this
  exact List.eq_nil_of_length_eq_zero (Option.some.inj this).symm
/-! ### what a book that was read is like -/
abbrev sgs (l : List Lies) : Word := l.map fun x => x.sign
theorem dep_next {d : Nat} {x : Lies} {r : Word} (h : x.sign = .opens ∨ x.sign = .alone ∨ (x.sign = .closes ∧ d ≠ 0)) : dep d (x.sign :: r) = dep (nextW d x) r := by
  unfold nextW
  rcases h with h | h | ⟨h, h0⟩
  · rw [h, if_pos rfl]
    rfl
  · rw [h, if_neg (by decide), if_neg (by decide)]
    rfl
  · rw [h, if_neg (by decide), if_pos rfl]
    cases d with
    | zero => exact absurd rfl h0
    | succ d => rfl
structure BkOk (n : Nat) (us : List Nat) (d : Nat) (h : List Lies) (R : Book) : Prop where
  ne : h ≠ []
  dh : dep d (sgs h) = some 0
  dR : ∀ r ∈ R, r ≠ [] ∧ dep 0 (sgs r) = some 0
  nd : ((h ++ R.flatten).map fun x => x.leaf).Nodup
  mem : ∀ x ∈ h ++ R.flatten, 1 ≤ x.leaf ∧ x.leaf ≤ n ∧ x.leaf ∉ us ∧ x.sign.leaf = true
  len : (h ++ R.flatten).length + us.length = n
theorem lf_of {x : Lies} {d : Nat} (h : x.sign = .opens ∨ x.sign = .alone ∨ (x.sign = .closes ∧ d ≠ 0)) : x.sign.leaf = true := by
  rcases h with h | h | ⟨h, _⟩ <;> rw [h] <;> rfl
theorem book_ok {n : Nat} : ∀ (f : Nat) (us : List Nat) (d : Nat) (g : List Lies) (p : Nat) (t : Bytes) (B : Book), bookAt n f us d g p t = .ok B → ∃ h R, B = (g ++ h) :: R ∧ BkOk n us d h R
  | 0, us, d, g, p, t, B, h => by cases h
  | f + 1, us, d, g, p, t, B, h => by
    rw [book_lay] at h
    cases e : layAt n us d p t with
    | error z =>
      rw [e] at h
      cases h
    | ok z =>
      obtain ⟨x, q, u⟩ := z
      rw [e, bndE_ok] at h
      obtain ⟨h1, h2, h3, h4⟩ := lay_ok e
      have hdx : ∀ r, dep d (x.sign :: r) = dep (nextW d x) r := fun r => dep_next h4
      have step : ∀ h' R', BkOk n (x.leaf :: us) (nextW d x) h' R' → BkOk n us d (x :: h') R' := fun h' R' b => by
        refine ⟨by simp, ?_, b.dR, ?_, fun y hy => ?_, ?_⟩
        · show dep d (x.sign :: sgs h') = _
          rw [hdx]
          exact b.dh
        · show (x.leaf :: ((h' ++ R'.flatten).map fun x => x.leaf)).Nodup
          refine List.nodup_cons.mpr ⟨fun m => ?_, b.nd⟩
          obtain ⟨y, hy, ey⟩ := List.mem_map.mp m
          exact (b.mem y hy).2.2.1 (by rw [ey]; exact .head _)
        · rcases List.mem_cons.mp hy with rfl | hy
          · exact ⟨h1, h2, h3, lf_of h4⟩
          · obtain ⟨g1, g2, g3, g4⟩ := b.mem y hy
            exact ⟨g1, g2, fun m => g3 (.tail _ m), g4⟩
        · have := b.len
          simp only [List.length_append, List.length_cons] at this ⊢
          omega
      unfold sepFrom at h
      cases u with
      | nil =>
        dsimp only at h
        split at h
        · rename_i hc
          cases h
          refine ⟨[x], [], rfl, by simp, ?_, (fun r hr => nomatch hr), by simp, fun y hy => ?_, ?_⟩
          · show dep d (x.sign :: []) = _
            rw [hdx]
            exact congrArg some hc.2
          · have ey : y = x := by simpa using hy
            subst ey
            exact ⟨h1, h2, h3, lf_of h4⟩
          · have := hc.1
            simp only [List.length_cons] at this
            simp
            omega
        · cases h
      | cons c v =>
        dsimp only at h
        split at h
        · cases h
        · cases v with
          | nil => cases h
          | cons d' z =>
            dsimp only at h
            split at h
            · split at h
              · cases h
              · rename_i hw0
                have hw : nextW d x = 0 := Classical.byContradiction hw0
                generalize charAt 32 (q + 2) z = rr at h
                rcases rr with e | ⟨_, q', u'⟩
                · cases h
                · dsimp only at h
                  split at h
                  · cases h
                  · rename_i B' hB
                    cases h
                    obtain ⟨h', R', eB, b⟩ := book_ok f _ _ _ _ _ _ hB
                    subst eB
                    refine ⟨[x], h' :: R', rfl, by simp, ?_, fun r hr => ?_, ?_, fun y hy => ?_, ?_⟩
                    · show dep d (x.sign :: []) = _
                      rw [hdx]
                      exact congrArg some hw
                    · rcases List.mem_cons.mp hr with rfl | hr
                      · exact ⟨b.ne, b.dh⟩
                      · exact b.dR r hr
                    · have s := step h' R' ⟨b.ne, by rw [hw]; exact b.dh, b.dR, b.nd, b.mem, b.len⟩
                      exact s.nd
                    · have s := step h' R' ⟨b.ne, by rw [hw]; exact b.dh, b.dR, b.nd, b.mem, b.len⟩
                      exact s.mem y hy
                    · have s := step h' R' ⟨b.ne, by rw [hw]; exact b.dh, b.dR, b.nd, b.mem, b.len⟩
                      exact s.len
            · obtain ⟨h', R', eB, b⟩ := book_ok f _ _ _ _ _ _ h
              exact ⟨x :: h', R', by rw [eB, List.append_assoc]; rfl, step h' R' b⟩
/-- a book that was read -/
structure BOk (n : Nat) (B : Book) : Prop where
  gath : ∀ g ∈ B, g ≠ [] ∧ dep 0 (sgs g) = some 0
  nd : (B.flatten.map fun x => x.leaf).Nodup
  mem : ∀ x ∈ B.flatten, 1 ≤ x.leaf ∧ x.leaf ≤ n ∧ x.sign.leaf = true
  len : B.flatten.length = n
theorem read_ok {n : Nat} {t : Bytes} {B : Book} (h : readBook n t = .ok B) : BOk n B := by
  obtain ⟨h', R, e, b⟩ := book_ok _ _ _ _ _ _ _ h
  rw [List.nil_append] at e
  subst e
  refine ⟨fun g hg => ?_, b.nd, fun x hx => ?_, by have := b.len; simpa using this⟩
  · rcases List.mem_cons.mp hg with rfl | hg
    · exact ⟨b.ne, b.dh⟩
    · exact b.dR g hg
  · obtain ⟨g1, g2, _, g4⟩ := b.mem x hx
    exact ⟨g1, g2, g4⟩
end Desk
end
section
set_option linter.all false
namespace Desk
open Quire (Bytes Sign Word scan paired mate part)
open QuireSeen (Lies Book Side)
/-! ### places in a book -/
theorem nodup_sub : ∀ (xs ys : List Nat), xs.Nodup → (∀ x ∈ xs, x ∈ ys) → xs.length ≤ ys.length
  | [], ys, _, _ => Nat.zero_le _
  | x :: xs, ys, hn, hs => by
    obtain ⟨h1, h2⟩ := List.nodup_cons.mp hn
    have hx := hs x (.head _)
    have := nodup_sub xs (ys.erase x) h2 fun y hy => (List.mem_erase_of_ne (fun e => h1 (by rw [← e]; exact hy))).mpr (hs y (.tail _ hy))
    have hl := List.length_erase_of_mem hx
    have hp := List.length_pos_of_mem hx
    simp only [List.length_cons]
    omega
theorem all_there {n : Nat} {xs : List Nat} (hn : xs.Nodup) (hm : ∀ x ∈ xs, 1 ≤ x ∧ x ≤ n) (hl : xs.length = n) {l : Nat} (h1 : 1 ≤ l) (h2 : l ≤ n) : l ∈ xs := by
  refine Classical.byContradiction fun hno => ?_
  have hy : ∀ x, (1 ≤ x ∧ x ≤ n) → x ∈ (List.range n).map (· + 1) := fun x ⟨a, b⟩ => List.mem_map.mpr ⟨x - 1, List.mem_range.mpr (by omega), by omega⟩
  have := nodup_sub xs (((List.range n).map (· + 1)).erase l) hn fun x hx => (List.mem_erase_of_ne (fun e => hno (by rw [← e]; exact hx))).mpr (hy x (hm x hx))
  rw [List.length_erase_of_mem (hy l ⟨h1, h2⟩), List.length_map, List.length_range] at this
  omega
theorem nd_at {α : Type} {xs : List α} (h : xs.Nodup) {i j : Nat} {x : α} (a : xs[i]? = some x) (b : xs[j]? = some x) : i = j := by
  exact (List.getElem?_inj (List.getElem?_eq_some_iff.mp a).1 h).mp (a.trans b.symm)
/-- the place among all leaves -/
def fp (B : Book) (i p : Nat) : Nat := ((B.take i).flatten).length + p
theorem flat_split {B : Book} {i : Nat} {g : List Lies} (h : B[i]? = some g) : B.flatten = (B.take i).flatten ++ (g ++ (B.drop (i + 1)).flatten) := by
  obtain ⟨hi, e⟩ := List.getElem?_eq_some_iff.mp h
  have : B = B.take i ++ B.drop i := (List.take_append_drop _ _).symm
  rw [List.drop_eq_getElem_cons hi, e] at this
  conv => lhs; rw [this]
  rw [List.flatten_append, List.flatten_cons]
theorem flat_at {B : Book} {i p : Nat} {g : List Lies} {x : Lies} (h : B[i]? = some g) (hx : g[p]? = some x) : B.flatten[fp B i p]? = some x := by
  have hp := (List.getElem?_eq_some_iff.mp hx).1
  rw [flat_split h]
  unfold fp
  rw [List.getElem?_append_right (Nat.le_add_right _ _), Nat.add_sub_cancel_left, List.getElem?_append_left hp]
  exact hx
theorem take_flat {B : Book} {i : Nat} {g : List Lies} (h : B[i]? = some g) : (B.take (i + 1)).flatten = (B.take i).flatten ++ g := by
  obtain ⟨hi, e⟩ := List.getElem?_eq_some_iff.mp h
  rw [List.take_succ_eq_append_getElem hi, e, List.flatten_append, List.flatten_singleton]
theorem take_mono {B : Book} {i j : Nat} (h : i ≤ j) : ((B.take i).flatten).length ≤ ((B.take j).flatten).length := by
  have e : B.take i = (B.take j).take i := by rw [List.take_take, Nat.min_eq_left h]
  have e2 : B.take j = (B.take j).take i ++ (B.take j).drop i := (List.take_append_drop _ _).symm
  rw [e]
  conv => rhs; rw [e2]
  rw [List.flatten_append, List.length_append]
  exact Nat.le_add_right _ _
theorem fp_lt {B : Book} {i j p q : Nat} {g : List Lies} (h : B[i]? = some g) (hp : p < g.length) (hij : i < j) : fp B i p < fp B j q := by
  have := take_mono (B := B) (show i + 1 ≤ j from hij)
  rw [take_flat h, List.length_append] at this
  unfold fp
  omega
theorem flat_inj {B : Book} (hn : (B.flatten.map fun x => x.leaf).Nodup) {i j p q : Nat} {g h : List Lies} {x y : Lies} (hg : B[i]? = some g) (hx : g[p]? = some x) (hh : B[j]? = some h) (hy : h[q]? = some y) (e : x.leaf = y.leaf) : i = j ∧ p = q := by
  have a : (B.flatten.map fun x => x.leaf)[fp B i p]? = some x.leaf := by rw [List.getElem?_map, flat_at hg hx]; rfl
  have b : (B.flatten.map fun x => x.leaf)[fp B j q]? = some x.leaf := by rw [List.getElem?_map, flat_at hh hy, e]; rfl
  have ep := nd_at hn a b
  have hp := (List.getElem?_eq_some_iff.mp hx).1
  have hq := (List.getElem?_eq_some_iff.mp hy).1
  rcases Nat.lt_trichotomy i j with z | z | z
  · have := fp_lt (q := q) hg hp z
    omega
  · subst z
    unfold fp at ep
    exact ⟨rfl, by omega⟩
  · have := fp_lt (q := p) hh hq z
    omega
/-- every leaf has its place -/
theorem leaf_at {n : Nat} {B : Book} (b : BOk n B) {l : Nat} (h1 : 1 ≤ l) (h2 : l ≤ n) : ∃ (i p : Nat) (g : List Lies) (x : Lies), B[i]? = some g ∧ g[p]? = some x ∧ x.leaf = l := by
  have : l ∈ B.flatten.map fun x : Lies => x.leaf := all_there b.nd (fun x hx => by
    obtain ⟨y, hy, e⟩ := List.mem_map.mp hx
    obtain ⟨g1, g2, _⟩ := b.mem y hy
    rw [← e]
    exact ⟨g1, g2⟩) (by rw [List.length_map]; exact b.len) h1 h2
  obtain ⟨x, hx, e⟩ := List.mem_map.mp this
  obtain ⟨g, hg, hxg⟩ := List.mem_flatten.mp hx
  obtain ⟨i, hi⟩ := List.getElem?_of_mem hg
  obtain ⟨p, hp⟩ := List.getElem?_of_mem hxg
  exact ⟨i, p, g, x, hi, hp, e⟩
/-! ### sides -/
def b2 (b : Bool) : Nat := if b = true then 1 else 0
def sk (l : List Lies) : List Nat := l.flatMap fun x => [2 * x.leaf + b2 x.b, 2 * x.leaf + b2 (!x.b)]
theorem sk_append (l m : List Lies) : sk (l ++ m) = sk l ++ sk m := by
  unfold sk
  rw [List.flatMap_append]
theorem sk_sides (B : Book) : B.sides.map Side.key = sk B.flatten := by
  unfold Book.sides Book.leaves sk
  rw [List.map_flatMap]
  rfl
theorem flatMap_two {α β : Type} (f g : α → β) : ∀ (l : List α) (i : Nat) (x : α), l[i]? = some x → (l.flatMap fun x => [f x, g x])[2 * i]? = some (f x) ∧ (l.flatMap fun x => [f x, g x])[2 * i + 1]? = some (g x)
  | [], i, x, h => by simp at h
  | y :: l, 0, x, h => by
    cases h
    exact ⟨rfl, rfl⟩
  | y :: l, i + 1, x, h => by
    have := flatMap_two f g l i x h
    rw [List.flatMap_cons, show 2 * (i + 1) = 2 * i + 2 by omega, show 2 * i + 2 + 1 = (2 * i + 1) + 2 by omega]
    exact this
theorem flatMap_len {α β : Type} (f g : α → β) : ∀ (l : List α), (l.flatMap fun x => [f x, g x]).length = 2 * l.length
  | [] => rfl
  | y :: l => by
    rw [List.flatMap_cons, List.length_append, flatMap_len f g l]
    simp
    omega
theorem sides_at {B : Book} {i : Nat} {x : Lies} (h : B.flatten[i]? = some x) : B.sides[2 * i]? = some ⟨x.leaf, x.b⟩ ∧ B.sides[2 * i + 1]? = some ⟨x.leaf, !x.b⟩ :=
  flatMap_two (fun x : Lies => (⟨x.leaf, x.b⟩ : Side)) (fun x : Lies => (⟨x.leaf, !x.b⟩ : Side)) B.flatten i x h
theorem sides_len (B : Book) : B.sides.length = 2 * B.flatten.length := flatMap_len (fun x : Lies => (⟨x.leaf, x.b⟩ : Side)) (fun x : Lies => (⟨x.leaf, !x.b⟩ : Side)) B.flatten
theorem side_of {B : Book} {j : Nat} {s : Side} (h : B.sides[j]? = some s) : ∃ x, B.flatten[j / 2]? = some x ∧ s.leaf = x.leaf ∧ (j % 2 = 0 → s.b = x.b) ∧ (j % 2 = 1 → s.b = !x.b) := by
  have hj := (List.getElem?_eq_some_iff.mp h).1
  rw [sides_len] at hj
  have hlt : j / 2 < B.flatten.length := by omega
  obtain ⟨h1, h2⟩ := sides_at (List.getElem?_eq_getElem hlt)
  refine ⟨B.flatten[j / 2], List.getElem?_eq_getElem hlt, ?_⟩
  rcases Nat.mod_two_eq_zero_or_one j with z | z
  · rw [show 2 * (j / 2) = j by omega, h] at h1
    cases h1
    exact ⟨rfl, fun _ => rfl, fun q => by omega⟩
  · rw [show 2 * (j / 2) + 1 = j by omega, h] at h2
    cases h2
    exact ⟨rfl, fun q => by omega, fun _ => rfl⟩
theorem side_place {n : Nat} {B : Book} (b : BOk n B) {i j : Nat} {s : Side} (h1 : B.sides[i]? = some s) (h2 : B.sides[j]? = some s) : i = j := by
  obtain ⟨x, hx, ex, x0, x1⟩ := side_of h1
  obtain ⟨y, hy, ey, y0, y1⟩ := side_of h2
  have e : i / 2 = j / 2 := nd_at b.nd (x := s.leaf) (by rw [List.getElem?_map, hx, ex]; rfl) (by rw [List.getElem?_map, hy, ey]; rfl)
  rw [e, hy] at hx
  cases hx
  rcases Nat.mod_two_eq_zero_or_one i with z | z <;> rcases Nat.mod_two_eq_zero_or_one j with z' | z'
  · omega
  · have a := x0 z
    rw [y1 z'] at a
    cases hxb : x.b <;> rw [hxb] at a <;> simp at a
  · have a := x1 z
    rw [y0 z'] at a
    cases hxb : x.b <;> rw [hxb] at a <;> simp at a
  · omega
theorem at_of_sides {n : Nat} {B : Book} (b : BOk n B) {i : Nat} {s : Side} (h : B.sides[i]? = some s) : B.at_ s = i := by
  have hm : s ∈ B.sides := List.mem_of_getElem? h
  have hlt : B.sides.idxOf s < B.sides.length := List.idxOf_lt_length_of_mem hm
  have e : B.sides[B.sides.idxOf s]? = some s := by
    rw [List.getElem?_eq_getElem hlt, List.getElem_idxOf hlt]
  exact side_place b e h
theorem key_inj {s t : Side} (h : s.key = t.key) : s = t := by
  obtain ⟨l, b⟩ := s
  obtain ⟨m, d⟩ := t
  unfold Side.key at h
  cases b <;> cases d <;> simp at h <;> first | (have : l = m := by omega); subst this; rfl | omega
/-- where a leaf's sides are -/
theorem leaf_sides {n : Nat} {B : Book} (b : BOk n B) {i : Nat} {x : Lies} (h : B.flatten[i]? = some x) : B.at_ ⟨x.leaf, x.b⟩ = 2 * i ∧ B.at_ ⟨x.leaf, !x.b⟩ = 2 * i + 1 ∧ B.pos x.leaf = i := by
  obtain ⟨h1, h2⟩ := sides_at h
  refine ⟨at_of_sides b h1, at_of_sides b h2, ?_⟩
  unfold Book.pos Book.leaves
  have hi := (List.getElem?_eq_some_iff.mp h)
  obtain ⟨hlt, ex⟩ := hi
  rw [List.findIdx_eq hlt]
  refine ⟨by rw [ex]; simp, fun j hj => ?_⟩
  have hjl : j < B.flatten.length := by omega
  rw [← Bool.not_eq_true, beq_iff_eq]
  intro e
  have := nd_at b.nd (x := x.leaf) (i := j) (j := i) (by rw [List.getElem?_map, List.getElem?_eq_getElem hjl]; exact congrArg some e) (by rw [List.getElem?_map, h]; rfl)
  omega
theorem at_half {n : Nat} {B : Book} (b : BOk n B) {l : Nat} (h1 : 1 ≤ l) (h2 : l ≤ n) (d : Bool) : B.at_ ⟨l, d⟩ / 2 = B.pos l := by
  obtain ⟨i, p, g, x, hi, hp, rfl⟩ := leaf_at b h1 h2
  obtain ⟨a1, a2, a3⟩ := leaf_sides b (flat_at hi hp)
  rw [a3]
  by_cases e : d = x.b
  · rw [e, a1]
    omega
  · have e2 : d = !x.b := by cases d <;> cases hx : x.b <;> simp_all
    rw [e2, a2]
    omega
theorem side_mem {n : Nat} {B : Book} (b : BOk n B) {s : Side} (h1 : 1 ≤ s.leaf) (h2 : s.leaf ≤ n) : B.sides[B.at_ s]? = some s := by
  obtain ⟨i, p, g, x, hi, hp, e⟩ := leaf_at b h1 h2
  obtain ⟨s1, s2⟩ := sides_at (flat_at hi hp)
  have hm : s ∈ B.sides := by
    obtain ⟨l, d⟩ := s
    dsimp only at e
    subst e
    by_cases z : d = x.b
    · rw [z]
      exact List.mem_of_getElem? s1
    · have e2 : d = !x.b := by cases d <;> cases hx : x.b <;> simp_all
      rw [e2]
      exact List.mem_of_getElem? s2
  have hlt : B.sides.idxOf s < B.sides.length := List.idxOf_lt_length_of_mem hm
  show B.sides[B.sides.idxOf s]? = some s
  rw [List.getElem?_eq_getElem hlt, List.getElem_idxOf hlt]
/-! ### gatherings, partners -/
theorem gath_of {n : Nat} {B : Book} (b : BOk n B) {i p : Nat} {g : List Lies} {x : Lies} (hi : B[i]? = some g) (hp : g[p]? = some x) : B.gathering x.leaf = i := by
  unfold Book.gathering
  obtain ⟨hlt, eg⟩ := List.getElem?_eq_some_iff.mp hi
  rw [List.findIdx_eq hlt]
  refine ⟨?_, fun j hj => ?_⟩
  · rw [eg, List.any_eq_true]
    exact ⟨x, List.mem_of_getElem? hp, by simp⟩
  · have hjl : j < B.length := by omega
    rw [← Bool.not_eq_true, List.any_eq_true]
    rintro ⟨y, hy, e⟩
    obtain ⟨q, hq⟩ := List.getElem?_of_mem hy
    have := flat_inj b.nd (List.getElem?_eq_getElem hjl) hq hi hp (beq_iff_eq.mp e)
    omega
theorem place_of {n : Nat} {B : Book} (b : BOk n B) {i p : Nat} {g : List Lies} {x : Lies} (hi : B[i]? = some g) (hp : g[p]? = some x) : (g.findIdx fun y => y.leaf == x.leaf) = p := by
  obtain ⟨hlt, ex⟩ := List.getElem?_eq_some_iff.mp hp
  rw [List.findIdx_eq hlt]
  refine ⟨by rw [ex]; simp, fun j hj => ?_⟩
  have hjl : j < g.length := by omega
  rw [← Bool.not_eq_true, beq_iff_eq]
  intro e
  have := flat_inj b.nd hi (List.getElem?_eq_getElem hjl) hi hp e
  omega
/-- v is the partner of the one at place p of g: as far as seen, where these wait -/
def PtOk (g : List Lies) (ps : List Nat) (p v : Nat) : Prop := ((sgs g)[p]? = some .alone ∧ v = 0) ∨ (p ∈ ps ∧ v = 0) ∨ (∃ j y, Pr (sgs g) p j ∧ g[j]? = some y ∧ v = y.leaf) ∨ ∃ j y, Pr (sgs g) j p ∧ g[j]? = some y ∧ v = y.leaf
theorem sgs_at {g : List Lies} {p : Nat} {x : Lies} (h : g[p]? = some x) : (sgs g)[p]? = some x.sign := by
  show (g.map fun x => x.sign)[p]? = _
  rw [List.getElem?_map, h]
  rfl
theorem lfw {n : Nat} {B : Book} (b : BOk n B) {i : Nat} {g : List Lies} (hi : B[i]? = some g) : LfW (sgs g) := fun s hs => by
  obtain ⟨x, hx, rfl⟩ := List.mem_map.mp hs
  exact (b.mem x (List.mem_flatten.mpr ⟨g, List.mem_of_getElem? hi, hx⟩)).2.2
theorem partner_of {n : Nat} {B : Book} (b : BOk n B) {i p v : Nat} {g : List Lies} {x : Lies} (hi : B[i]? = some g) (hp : g[p]? = some x) (h : PtOk g [] p v) : B.partner x.leaf = v := by
  unfold Book.partner
  dsimp only
  rw [gath_of b hi hp, show B.getD i [] = g by rw [List.getD_eq_getElem?_getD, hi]; rfl, place_of b hi hp]
  have hw := lfw b hi
  show (match mate (sgs g) p with | none => 0 | some q => if q = p then 0 else (g[q]?.map fun x => x.leaf).getD 0) = v
  rcases h with ⟨h, rfl⟩ | ⟨h, _⟩ | ⟨j, y, h, hy, rfl⟩ | ⟨j, y, h, hy, rfl⟩
  · rw [mate_alone h]
    exact if_pos rfl
  · cases h
  · rw [mate_open hw h]
    dsimp only
    have := h.lt
    rw [if_neg (by omega), hy]
    rfl
  · rw [mate_close hw h]
    dsimp only
    have := h.lt
    rw [if_neg (by omega), hy]
    rfl
end Desk
end
section
set_option Elab.async false
set_option linter.all false
set_option maxRecDepth 100000
namespace L2
open PySem PySem.Spec PyProof.Rows
/-- for i, x in enumerate(list) -/
theorem for_enum {K : PySem.W.Frag} {a : Addr} {xs : List V} {g : TG} {tb : TS} {D : Ends} {σ : St} {H : Hp} (Pv : Nat → St → Hp → Prop) (h0 : Pv 0 σ H) (hl : ∀ i σ H, i ≤ xs.length → Pv i σ H → SqL K H a xs)
    (hs : ∀ i x σ H T, xs[i]? = some x → Pv i σ H → H T = none → g (.ref T) σ (upd H T (.tup [.int (i : Nat), x])) fun σ2 H2 => tb { D with nx := Pv (i + 1), ct := Pv (i + 1), bk := D.nx } σ2 H2) (hd : ∀ σ H, Pv xs.length σ H → D.nx σ H) :
    ∃ W : Nat → Nat → St → Hp → Prop, (∃ m, W 0 m σ H) ∧ ∀ i m σ H, W i m σ H →
      ((Ite K a).stop i H ∧ D.nx σ H) ∨ ((Ite K a).go i H ∧ ∃ N : St → Hp → Prop, (∀ σ' H', N σ' H' → ∃ m', m' < m ∧ W (i + 1) m' σ' H') ∧ ∀ x H', (Ite K a).yld i H x H' → g x σ H' fun σ2 H2 => tb { D with nx := N, ct := N, bk := D.nx } σ2 H2) := by
  refine ⟨fun i m σ H => m = xs.length - i ∧ i ≤ xs.length ∧ Pv i σ H, ⟨xs.length, by simp, Nat.zero_le _, h0⟩, ?_⟩
  rintro i m σ H ⟨rfl, hi, p⟩
  have q := hl i σ H hi p
  by_cases hlt : i < xs.length
  · refine .inr ⟨⟨xs, xs[i], q, by simp [hlt]⟩, Pv (i + 1), fun σ' H' p' => ⟨xs.length - (i + 1), by omega, rfl, hlt, p'⟩, fun x H' y => ?_⟩
    obtain ⟨T, z, rfl, n, rfl, y⟩ := y
    exact hs i z σ _ T (y xs q) p n
  · have e : i = xs.length := by omega
    subst e
    exact .inl ⟨⟨xs, q, Nat.le_refl _⟩, hd σ H p⟩
theorem putK_len {κ : Type} [DecidableEq κ] (kvs : List (κ × V)) (k : κ) (v : V) : (putK kvs k v).length ≤ kvs.length + 1 := by
  unfold putK
  split
  · rw [List.length_map]
    exact Nat.le_succ _
  · rw [List.length_append]
    exact Nat.le_refl _
end L2
namespace Desk
open PySem PySem.Spec PyProof.Rows L2
open Quire (Bytes Sign)
open QuireSeen (Rd Side Lies Book readBook readFindings Findings)
structure TxtY (K : PySem.W.Frag) (mg : Str → Option Value) (cy : Addr) : Prop where
  cl : Cls K cy
  nSo : NoAttr K cy "sides_in_order"
  nSp : NoAttr K cy "side_places"
  nGn : NoAttr K cy "gathering_numbers"
  nPt : NoAttr K cy "partners"
  mgY : mg "Lying" = some (.ref cy)
  noen : mg "enumerate" = none
section
variable {P : Program} {w : World} {K : PySem.W.Frag} {mg : Str → Option Value} {base : Heap} {c : Cs} {cb : Cb}
theorem to_append {σ : L2.St} {H : Hp} {i : Nat} {l : Addr} {xs : List V} {tt : TE} {v : V} {D : Ends} (hi : σ[i]? = some (some (.ref l))) (h : H l = some (.lst xs)) (hv : Val tt σ H v) (hz : xs.length < sizeLine) (k : D.nx σ (upd H l (.lst (xs ++ [v])))) :
    tDrop (tBM K "list" rAppend (tVar i) (tCons tt tNil)) D σ H := ⟨_, hi, .inl ⟨rfl, _, SqL.of h⟩, hv _ ⟨l, _, _, rfl, rfl, h, hz, k⟩⟩
theorem to_dput {σ : L2.St} {H : Hp} {i : Nat} {d : Addr} {kvs : List (Key × V)} {ty tv : TE} {z : Int} {v : V} {D : Ends} (hi : σ[i]? = some (some (.ref d))) (h : H d = some (.dK kvs)) (hk : Val ty σ H (.int z)) (hv : Val tv σ H v) (hz : kvs.length < sizeLine)
    (k : D.nx σ (upd H d (.dK (putK kvs (Sum.inl z) v)))) : sDPut (tVar i) ty tv D σ H := hv _ ⟨_, hi, hk _ ⟨d, _, rfl, DPut.k (k := Sum.inl z) h hz, k⟩⟩
theorem flat_le {B : Book} {i j : Nat} {g : List Lies} (h : B[i]? = some g) : ((B.take i).flatten).length + (g.take j).length ≤ B.flatten.length := by
  rw [flat_split h, List.length_append, List.length_append, List.length_take]
  omega
theorem sk_len (l : List Lies) : (sk l).length = 2 * l.length := flatMap_len _ _ l
/-- the gatherings' items -/
theorem RepB.item {B : Book} {ga : List Addr} {H : Hp} {i : Nat} {y : V} (h : RepB cb B ga H) (hy : (ga.map V.ref)[i]? = some y) : ∃ a g vs, y = .ref a ∧ B[i]? = some g ∧ H a = some (.lst vs) ∧ RepG cb g vs H := by
  rw [List.getElem?_map] at hy
  cases e : ga[i]? with
  | none =>
    rw [e] at hy
    cases hy
  | some a =>
    rw [e] at hy
    cases hy
    have hi : i < B.length := by
      rw [← h.len]
      exact (List.getElem?_eq_some_iff.mp e).1
    obtain ⟨a', vs, e1, e2, e3⟩ := h.at_ i _ (List.getElem?_eq_getElem hi)
    rw [e] at e1
    cases e1
    exact ⟨a, _, vs, rfl, List.getElem?_eq_getElem hi, e2, e3⟩
theorem RepG.item {g : List Lies} {vs : List V} {H : Hp} {j : Nat} {y : V} (h : RepG cb g vs H) (hy : vs[j]? = some y) : ∃ z dz x, y = .ref z ∧ g[j]? = some x ∧ H z = some (.ins cb.LL dz (lx x)) := by
  have hj : j < g.length := by
    rw [← h.1]
    exact (List.getElem?_eq_some_iff.mp hy).1
  obtain ⟨v, e1, z, dz, e2, e3⟩ := h.2 j _ (List.getElem?_eq_getElem hj)
  rw [hy] at e1
  cases e1
  exact ⟨z, dz, _, e2, List.getElem?_eq_getElem hj, e3⟩
/-! ### list_sides -/
def spLS (cb : Cb) : Sp := fun vs H Q _ => ∃ (gl : Addr) (ga : List Addr) (B : Book), vs = [.ref gl] ∧ H gl = some (.lst (ga.map V.ref)) ∧ RepB cb B ga H ∧ B.flatten.length ≤ 16 ∧ ∀ H' p, H' p = some (.lst (nv (sk B.flatten))) → Same H H' → Q (.ref p) H'
theorem scLS : FnScope ["gatherings", "sides", "gathering", "leaf"] ["gatherings"] (defScope s_list_sides) := ⟨rfl, rfl, rfl, by decide +kernel, rfl, by decide +kernel, by decide +kernel⟩
theorem nv_snoc (l : List Nat) (n : Nat) : nv l ++ [.int (n : Int)] = nv (l ++ [n]) := by unfold nv; rw [List.map_append]; rfl
theorem ok_ls {f : Addr} {fd : FuncData} (F : Fun K "list_sides" "list_sides" s_list_sides f fd) (TB : TxtB K mg cb) : FnOk P w K mg base (CXx P w) 1 f fd ["gatherings"] (spLS cb) := by
  refine F.okx scLS (fun vs H Q E h => ?_) (fun cdv A outer s H vs Q E hr h => ?_)
  · obtain ⟨gl, ga, B, rfl, _⟩ := h
    rfl
  · obtain ⟨gl, ga, B, rfl, hgl, hB, hlen, k⟩ := h
    refine ⟨_, pss_cons (ps_set (i := 1) scLS.nd rfl (Or.inl rfl) (pe_lst pa_nil))
      (pss_cons (ps_for passes_own_x rfl (pi_list (pv 0)) (pg_name (i := 2) scLS.nd rfl (Or.inl rfl))
        (pss_one (ps_for passes_own_x rfl (pi_list (pv 2)) (pg_name (i := 3) scLS.nd rfl (Or.inl rfl))
          (pss_cons (ps_expr (pe_bm PySem.F.plainAttrs_list PySem.F.slot_list_append PySem.F.type_list_append mt_append (pv 1) (pa_cons (pe_op op_add (pe_op op_mul pe_int (pe_fld (pv 3) rfl)) (pe_fld (pv 3) rfl)) pa_nil)))
          (pss_one (ps_expr (pe_bm PySem.F.plainAttrs_list PySem.F.slot_list_append PySem.F.type_list_append mt_append (pv 1) (pa_cons (pe_op op_sub (pe_op op_add (pe_op op_mul pe_int (pe_fld (pv 3) rfl)) pe_int) (pe_fld (pv 3) rfl)) pa_nil))))))))
      (pss_one (ps_ret (pv 1)))), ?_⟩
    refine ⟨Nat.zero_le _, fun sl nsl => ?_⟩
    have s0 : Same H (upd H sl (.lst [])) := fun z o h => by rw [upd_ne (ne_of_none h nsl)]; exact h
    refine ⟨_, rfl, gl, rfl, ⟨_, SqL.of (s0 _ _ hgl)⟩, for_list (K := K) (a := gl) (xs := ga.map V.ref) (fun i σ H' => ∃ v2 v3 : Option V, σ = [some (.ref gl), some (.ref sl), v2, v3] ∧ Same H H' ∧ H' sl = some (.lst (nv (sk (B.take i).flatten))))
      ⟨none, none, rfl, s0, upd_same⟩ (fun i σ H' _ ⟨_, _, _, s', _⟩ => SqL.of (s' _ _ hgl)) ?_ ?_⟩
    · rintro i y σ H' hy ⟨v2, v3, rfl, s', hsl⟩
      obtain ⟨a, g, vs, rfl, hg, ha, hG⟩ := hB.item hy
      refine ⟨_, rfl, a, rfl, ⟨_, SqL.of (s' _ _ ha)⟩, for_list (K := K) (a := a) (xs := vs) (fun j σ H' => ∃ v3 : Option V, σ = [some (.ref gl), some (.ref sl), some (.ref a), v3] ∧ Same H H' ∧ H' sl = some (.lst (nv (sk (B.take i).flatten ++ sk (g.take j)))))
        ⟨v3, rfl, s', by rw [List.take_zero, show sk ([] : List Lies) = [] from rfl, List.append_nil]; exact hsl⟩ (fun j σ H' _ ⟨_, _, s', _⟩ => SqL.of (s' _ _ ha)) ?_ ?_⟩
      · rintro j y σ H' hy ⟨v3, rfl, s', hsl⟩
        obtain ⟨z, dz, x, rfl, hx, hz⟩ := hG.item hy
        have hz' := s' _ _ hz
        have hb := flat_le (j := j) hg
        have hn : ∀ H2, H2 z = some (.ins cb.LL dz (lx x)) → Val (tFld K (tVar 3) "number") [some (.ref gl), some (.ref sl), some (.ref a), some (.ref z)] H2 (.int (x.leaf : Int)) := fun H2 h => val_fld (val_var rfl) h TB.clL TB.nNu (lf_number _ _ _)
        have hf : ∀ H2, H2 z = some (.ins cb.LL dz (lx x)) → Val (tFld K (tVar 3) "front") [some (.ref gl), some (.ref sl), some (.ref a), some (.ref z)] H2 (.int (b2n x.b : Int)) := fun H2 h => val_fld (val_var rfl) h TB.clL TB.nFr (lf_front _ _ _)
        refine to_append rfl hsl (val_add (val_mul (i := 2) val_c (hn _ hz') (.inl ⟨by decide, by decide⟩)) (hf _ hz')) ?_ ?_
        · rw [len_nv, List.length_append, sk_len, sk_len]
          exact Nat.lt_of_le_of_lt (by omega : 2 * _ + 2 * _ ≤ 32) (by decide)
        have hz2 : ∀ o, upd H' sl o z = some (.ins cb.LL dz (lx x)) := fun o => by rw [upd_ne (ne_of hz' hsl (by intro q; cases q))]; exact hz'
        refine to_append rfl upd_same (val_sub (val_add (val_mul (i := 2) val_c (hn _ (hz2 _)) (.inl ⟨by decide, by decide⟩)) val_c) (hf _ (hz2 _))) ?_ ?_
        · rw [List.length_append, len_nv, List.length_append, sk_len, sk_len, List.length_singleton]
          exact Nat.lt_of_le_of_lt (by omega : 2 * _ + 2 * _ + 1 ≤ 33) (by decide)
        refine ⟨_, rfl, fun y o h => by rw [upd_ne (ne_of_none h nsl), upd_ne (ne_of_none h nsl)]; exact s' y o h, ?_⟩
        have hj := (List.getElem?_eq_some_iff.mp hx)
        obtain ⟨hjl, ej⟩ := hj
        rw [upd_same, List.take_succ_eq_append_getElem hjl, ej, sk_append]
        have e1 : (2 : Int) * (x.leaf : Int) + (b2n x.b : Int) = ((2 * x.leaf + b2 x.b : Nat) : Int) := by
          show _ = ((2 * x.leaf + b2n x.b : Nat) : Int)
          omega
        have e2 : (2 : Int) * (x.leaf : Int) + 1 - (b2n x.b : Int) = ((2 * x.leaf + b2 (!x.b) : Nat) : Int) := by
          unfold b2n b2
          cases x.b <;> simp <;> omega
        rw [e1, e2, nv_snoc, nv_snoc]
        simp [sk]
      · rintro σ H' ⟨v3, rfl, s', hsl⟩
        refine ⟨_, _, rfl, s', ?_⟩
        rw [take_flat hg, sk_append]
        rw [hG.1, List.take_length] at hsl
        exact hsl
    · rintro σ H' ⟨v2, v3, rfl, s', hsl⟩
      refine to_ret (val_var rfl) (k _ _ ?_ s')
      rw [List.length_map, hB.len, List.take_length] at hsl
      exact hsl
/-! ### number_sides -/
def spNS : Sp := fun vs H Q _ => ∃ (sl : Addr) (ks : List Nat), vs = [.ref sl] ∧ H sl = some (.lst (nv ks)) ∧ ks.Nodup ∧ ks.length ≤ 1000 ∧ ∀ H' d kvs, H' d = some (.dK kvs) → (∀ (j k : Nat), ks[j]? = some k → valV kvs (Sum.inl (k : Int)) = some (.int (j : Int))) → Same H H' → Q (.ref d) H'
theorem scNS : FnScope ["sides", "places", "place", "side"] ["sides"] (defScope s_number_sides) := ⟨rfl, rfl, rfl, by decide +kernel, rfl, by decide +kernel, by decide +kernel⟩
theorem ok_ns {f : Addr} {fd : FuncData} {cy : Addr} (F : Fun K "number_sides" "number_sides" s_number_sides f fd) (TY : TxtY K mg cy) : FnOk P w K mg base (CXx P w) 1 f fd ["sides"] spNS := by
  refine F.okx scNS (fun vs H Q E h => ?_) (fun cdv A outer s H vs Q E hr h => ?_)
  · obtain ⟨sl, ks, rfl, _⟩ := h
    rfl
  · obtain ⟨sl, ks, rfl, hsl, hnd, hlen, k⟩ := h
    have hu := hu_of hr
    refine ⟨_, pss_cons (ps_set (i := 1) scNS.nd rfl (Or.inl rfl) pe_dnewK)
      (pss_cons (ps_for passes_own_x rfl (pi_enum rfl TY.noen (pa_cons (pv 0) pa_nil)) (pg_tup rfl (pgs_cons (pg_name (i := 2) scNS.nd rfl (Or.inl rfl)) (pgs_cons (pg_name (i := 3) scNS.nd rfl (Or.inl rfl)) pgs_nil)))
        (pss_one (ps_dput hu (pv 1) (pv 3) (pv 2) rfl)))
      (pss_one (ps_ret (pv 1)))), ?_⟩
    refine fun d nd => ?_
    have s0 : Same H (upd H d (.dK [])) := fun z o h => by rw [upd_ne (ne_of_none h nd)]; exact h
    refine ⟨_, rfl, sl, _, rfl, SqL.of (s0 _ _ hsl), for_enum (K := K) (a := sl) (xs := nv ks) (fun i σ H' => ∃ (v2 v3 : Option V) (kvs : List (Key × V)), σ = [some (.ref sl), some (.ref d), v2, v3] ∧ Same H H' ∧ H' d = some (.dK kvs) ∧ kvs.length ≤ i ∧
      ∀ (j k : Nat), j < i → ks[j]? = some k → valV kvs (Sum.inl (k : Int)) = some (.int (j : Int)))
      ⟨none, none, [], rfl, s0, upd_same, Nat.le_refl _, fun j k hj => absurd hj (Nat.not_lt_zero _)⟩ (fun i σ H' _ ⟨_, _, _, _, s', _⟩ => SqL.of (s' _ _ hsl)) ?_ ?_⟩
    · rintro i y σ H' T hy ⟨v2, v3, kvs, rfl, s', hd, hkl, hv⟩ nT
      obtain ⟨kk, hk, rfl⟩ : ∃ kk, ks[i]? = some kk ∧ y = .int (kk : Int) := by
        unfold nv at hy
        rw [List.getElem?_map] at hy
        cases e : ks[i]? with
        | none =>
          rw [e] at hy
          cases hy
        | some kk =>
          rw [e] at hy
          exact ⟨kk, rfl, (Option.some.inj hy).symm⟩
      have hi : i < ks.length := (List.getElem?_eq_some_iff.mp hk).1
      refine ⟨T, _, rfl, SqT.of upd_same, rfl, _, _, rfl, _, _, rfl, rfl, ?_⟩
      have hd' : upd H' T (.tup [.int (i : Nat), .int (kk : Int)]) d = some (.dK kvs) := by rw [upd_ne (ne_of_none hd nT)]; exact hd
      refine to_dput rfl hd' (val_var rfl) (val_var rfl) (Nat.lt_of_le_of_lt hkl (Nat.lt_of_le_of_lt (by omega : i ≤ 1000) (by decide))) ?_
      refine ⟨_, _, _, rfl, fun z o h => ?_, upd_same, Nat.le_trans (putK_len _ _ _) (by omega), fun j k2 hj hk2 => ?_⟩
      · rw [upd_ne (ne_of_none h nd), upd_ne (ne_of_none (s' z o h) nT)]
        exact s' z o h
      · rw [valV_put]
        by_cases e : j = i
        · subst e
          rw [hk] at hk2
          cases hk2
          rw [if_pos rfl]
        · rw [if_neg (fun z => ?_), hv j k2 (by omega) hk2]
          injection z with z
          have : k2 = kk := by omega
          subst this
          exact e (nd_at hnd hk2 hk)
    · rintro σ H' ⟨v2, v3, kvs, rfl, s', hd, hkl, hv⟩
      exact to_ret (val_var rfl) (k _ _ kvs hd (fun j kk e => hv j kk (by rw [len_nv]; exact (List.getElem?_eq_some_iff.mp e).1) e) s')
end
end Desk
end
section
set_option Elab.async false
set_option linter.all false
set_option maxRecDepth 100000
namespace Desk
open PySem PySem.Spec PyProof.Rows L2
open Quire (Bytes Sign)
open QuireSeen (Rd Side Lies Book readBook readFindings Findings)
section
variable {P : Program} {w : World} {K : PySem.W.Frag} {mg : Str → Option Value} {base : Heap} {c : Cs} {cb : Cb}
theorem sg_open2 {x : Lies} : (sgB x.sign : Int) = 40 ↔ x.sign = .opens := by
  cases x.sign <;> simp [sgB]
theorem sg_close2 {x : Lies} : (sgB x.sign : Int) = 41 ↔ x.sign = .closes := by
  cases x.sign <;> simp [sgB]
/-! ### number_gatherings -/
def spNG (cb : Cb) : Sp := fun vs H Q _ => ∃ (gl : Addr) (ga : List Addr) (B : Book) (n : Nat), vs = [.ref gl] ∧ H gl = some (.lst (ga.map V.ref)) ∧ RepB cb B ga H ∧ BOk n B ∧ n ≤ 16 ∧
  ∀ H' d kvs, H' d = some (.dK kvs) → (∀ (i p : Nat) (g : List Lies) (x : Lies), B[i]? = some g → g[p]? = some x → valV kvs (Sum.inl (x.leaf : Int)) = some (.int (i : Int))) → Same H H' → Q (.ref d) H'
theorem scNG : FnScope ["gatherings", "numbers", "number", "gathering", "leaf"] ["gatherings"] (defScope s_number_gatherings) := ⟨rfl, rfl, rfl, by decide +kernel, rfl, by decide +kernel, by decide +kernel⟩
theorem ok_ng {f : Addr} {fd : FuncData} {cy : Addr} (F : Fun K "number_gatherings" "number_gatherings" s_number_gatherings f fd) (TB : TxtB K mg cb) (TY : TxtY K mg cy) : FnOk P w K mg base (CXx P w) 1 f fd ["gatherings"] (spNG cb) := by
  refine F.okx scNG (fun vs H Q E h => ?_) (fun cdv A outer s H vs Q E hr h => ?_)
  · obtain ⟨gl, ga, B, n, rfl, _⟩ := h
    rfl
  · obtain ⟨gl, ga, B, n, rfl, hgl, hB, ok, hn, k⟩ := h
    have hu := hu_of hr
    have hlen : B.flatten.length ≤ 16 := by rw [ok.len]; exact hn
    refine ⟨_, pss_cons (ps_set (i := 1) scNG.nd rfl (Or.inl rfl) pe_dnewK)
      (pss_cons (ps_for passes_own_x rfl (pi_enum rfl TY.noen (pa_cons (pv 0) pa_nil)) (pg_tup rfl (pgs_cons (pg_name (i := 2) scNG.nd rfl (Or.inl rfl)) (pgs_cons (pg_name (i := 3) scNG.nd rfl (Or.inl rfl)) pgs_nil)))
        (pss_one (ps_for passes_own_x rfl (pi_list (pv 3)) (pg_name (i := 4) scNG.nd rfl (Or.inl rfl)) (pss_one (ps_dput hu (pv 1) (pe_fld (pv 4) rfl) (pv 2) rfl)))))
      (pss_one (ps_ret (pv 1)))), ?_⟩
    refine fun d nd => ?_
    have s0 : Same H (upd H d (.dK [])) := fun z o h => by rw [upd_ne (ne_of_none h nd)]; exact h
    refine ⟨_, rfl, gl, _, rfl, SqL.of (s0 _ _ hgl), for_enum (K := K) (a := gl) (xs := ga.map V.ref) (fun i σ H' => ∃ (v2 v3 v4 : Option V) (kvs : List (Key × V)), σ = [some (.ref gl), some (.ref d), v2, v3, v4] ∧ Same H H' ∧ H' d = some (.dK kvs) ∧ kvs.length ≤ ((B.take i).flatten).length ∧
      ∀ (i' p : Nat) (g : List Lies) (x : Lies), i' < i → B[i']? = some g → g[p]? = some x → valV kvs (Sum.inl (x.leaf : Int)) = some (.int (i' : Int)))
      ⟨none, none, none, [], rfl, s0, upd_same, Nat.zero_le _, fun i' p g x hj => absurd hj (Nat.not_lt_zero _)⟩ (fun i σ H' _ ⟨_, _, _, _, _, s', _⟩ => SqL.of (s' _ _ hgl)) ?_ ?_⟩
    · rintro i y σ H' T hy ⟨v2, v3, v4, kvs, rfl, s', hd, hkl, hv⟩ nT
      obtain ⟨a, g, vs, rfl, hg, ha, hG⟩ := hB.item hy
      refine ⟨T, _, rfl, SqT.of upd_same, rfl, _, _, rfl, _, _, rfl, rfl, ?_⟩
      have sT : Same H' (upd H' T (.tup [.int (i : Nat), .ref a])) := fun z o h => by rw [upd_ne (ne_of_none h nT)]; exact h
      refine ⟨_, rfl, a, rfl, ⟨_, SqL.of (sT _ _ (s' _ _ ha))⟩, for_list (K := K) (a := a) (xs := vs) (fun j σ H' => ∃ (v4 : Option V) (kvs : List (Key × V)), σ = [some (.ref gl), some (.ref d), some (.int (i : Int)), some (.ref a), v4] ∧ Same H H' ∧ H' d = some (.dK kvs) ∧
        kvs.length ≤ ((B.take i).flatten).length + (g.take j).length ∧ (∀ (i' p : Nat) (g : List Lies) (x : Lies), i' < i → B[i']? = some g → g[p]? = some x → valV kvs (Sum.inl (x.leaf : Int)) = some (.int (i' : Int))) ∧
        ∀ (p : Nat) (x : Lies), p < j → g[p]? = some x → valV kvs (Sum.inl (x.leaf : Int)) = some (.int (i : Int)))
        ⟨v4, kvs, rfl, s'.trans sT, sT _ _ hd, Nat.le_trans hkl (Nat.le_add_right _ _), hv, fun p x hp => absurd hp (Nat.not_lt_zero _)⟩ (fun j σ H' _ ⟨_, _, _, s', _⟩ => SqL.of (s' _ _ ha)) ?_ ?_⟩
      · rintro j y σ H' hy ⟨v4, kvs, rfl, s', hd, hkl, hv, hvj⟩
        obtain ⟨z, dz, x, rfl, hx, hz⟩ := hG.item hy
        have hb := flat_le (j := j) hg
        have hjl := (List.getElem?_eq_some_iff.mp hx).1
        refine to_dput rfl hd (val_fld (val_var rfl) (s' _ _ hz) TB.clL TB.nNu (lf_number _ _ _)) (val_var rfl) (Nat.lt_of_le_of_lt (by omega : kvs.length ≤ 16) (by decide)) ?_
        refine ⟨_, _, rfl, fun y o h => by rw [upd_ne (ne_of_none h nd)]; exact s' y o h, upd_same, Nat.le_trans (putK_len _ _ _) (by rw [List.length_take] at hkl ⊢; omega), fun i' p g' x' hi' hg' hx' => ?_, fun p x' hp hx' => ?_⟩
        · rw [valV_put, if_neg (fun e => ?_), hv i' p g' x' hi' hg' hx']
          injection e with e
          have := flat_inj ok.nd hg' hx' hg hx (by omega)
          omega
        · rw [valV_put]
          by_cases e : p = j
          · subst e
            rw [hx] at hx'
            cases hx'
            rw [if_pos rfl]
          · rw [if_neg (fun z => ?_), hvj p x' (by omega) hx']
            injection z with z
            have := flat_inj ok.nd hg hx' hg hx (by omega)
            omega
      · rintro σ H' ⟨v4, kvs, rfl, s', hd, hkl, hv, hvj⟩
        refine ⟨_, _, _, kvs, rfl, s', hd, ?_, fun i' p g' x' hi' hg' hx' => ?_⟩
        · rw [take_flat hg, List.length_append]
          rw [hG.1, List.take_length] at hkl
          exact hkl
        · by_cases e : i' = i
          · subst e
            rw [hg] at hg'
            cases hg'
            exact hvj p x' (by rw [hG.1]; exact (List.getElem?_eq_some_iff.mp hx').1) hx'
          · exact hv i' p g' x' (by omega) hg' hx'
    · rintro σ H' ⟨v2, v3, v4, kvs, rfl, s', hd, hkl, hv⟩
      exact to_ret (val_var rfl) (k _ _ kvs hd (fun i p g x hg hx => hv i p g x (by rw [List.length_map, hB.len]; exact (List.getElem?_eq_some_iff.mp hg).1) hg hx) s')
/-! ### find_partners -/
def lvs (g : List Lies) (ps : List Nat) : List Nat := ps.map fun p => ((g[p]?).map fun x => x.leaf).getD 0
def PtAll (B : Book) (i : Nat) (kvs : List (Key × V)) : Prop := ∀ (i' p : Nat) (g : List Lies) (x : Lies), i' < i → B[i']? = some g → g[p]? = some x → ∃ v : Nat, valV kvs (Sum.inl (x.leaf : Int)) = some (.int (v : Int)) ∧ PtOk g [] p v
def spFP (cb : Cb) : Sp := fun vs H Q _ => ∃ (gl : Addr) (ga : List Addr) (B : Book) (n : Nat), vs = [.ref gl] ∧ H gl = some (.lst (ga.map V.ref)) ∧ RepB cb B ga H ∧ BOk n B ∧ n ≤ 16 ∧
  ∀ H' d kvs, H' d = some (.dK kvs) → PtAll B B.length kvs → Same H H' → Q (.ref d) H'
theorem scFP : FnScope ["gatherings", "partners", "waiting", "gathering", "leaf", "partner"] ["gatherings"] (defScope s_find_partners) := ⟨rfl, rfl, rfl, by decide +kernel, rfl, by decide +kernel, by decide +kernel⟩
/-- the turn of one leaf: what holds ahead of it -/
structure FPs (B : Book) (i : Nat) (g : List Lies) (j : Nat) (ps : List Nat) (kvs : List (Key × V)) : Prop where
  old : PtAll B i kvs
  stk : Stk (sgs g) ps j
  cur : ∀ (p : Nat) (x : Lies), p < j → g[p]? = some x → ∃ v : Nat, valV kvs (Sum.inl (x.leaf : Int)) = some (.int (v : Int)) ∧ PtOk g ps p v
  inn : ∀ p ∈ ps, p < j
theorem PtOk.more {g : List Lies} {ps qs : List Nat} {p v : Nat} (h : PtOk g ps p v) (hs : p ∈ ps → p ∈ qs) : PtOk g qs p v := by
  rcases h with h | ⟨h, e⟩ | h | h
  · exact .inl h
  · exact .inr (.inl ⟨hs h, e⟩)
  · exact .inr (.inr (.inl h))
  · exact .inr (.inr (.inr h))
/-- a leaf's own number is new to those before it -/
theorem FPs.put {n : Nat} {B : Book} (ok : BOk n B) {i j : Nat} {g : List Lies} {ps qs : List Nat} {kvs : List (Key × V)} {x : Lies} {u : Nat} (h : FPs B i g j ps kvs) (hg : B[i]? = some g) (hx : g[j]? = some x)
    (hs : Stk (sgs g) qs (j + 1)) (hq : ∀ p ∈ ps, p ∈ qs) (hin : ∀ p ∈ qs, p < j + 1) (hu : PtOk g qs j u) : FPs B i g (j + 1) qs (putK kvs (Sum.inl (x.leaf : Int)) (.int (u : Int))) := by
  refine ⟨fun i' p g' x' hi' hg' hx' => ?_, hs, fun p x' hp hx' => ?_, hin⟩
  · obtain ⟨v, h1, h2⟩ := h.old i' p g' x' hi' hg' hx'
    refine ⟨v, ?_, h2⟩
    rw [valV_put, if_neg (fun e => ?_), h1]
    injection e with e
    have := flat_inj ok.nd hg' hx' hg hx (by omega)
    omega
  · by_cases e : p = j
    · subst e
      rw [hx] at hx'
      cases hx'
      exact ⟨u, by rw [valV_put, if_pos rfl], hu⟩
    · obtain ⟨v, h1, h2⟩ := h.cur p x' (by omega) hx'
      refine ⟨v, ?_, h2.more (hq p)⟩
      rw [valV_put, if_neg (fun e => ?_), h1]
      injection e with e
      have := flat_inj ok.nd hg hx' hg hx (by omega)
      omega
/-- a pair is found -/
theorem FPs.pair {n : Nat} {B : Book} (ok : BOk n B) {i j p0 : Nat} {g : List Lies} {ps : List Nat} {kvs : List (Key × V)} {x y : Lies} {v0 : V} (h : FPs B i g j (p0 :: ps) kvs) (hg : B[i]? = some g) (hx : g[j]? = some x) (hy : g[p0]? = some y)
    (hc : (sgs g)[j]? = some .closes) : FPs B i g (j + 1) ps (putK (putK (putK kvs (Sum.inl (x.leaf : Int)) v0) (Sum.inl (x.leaf : Int)) (.int (y.leaf : Int))) (Sum.inl (y.leaf : Int)) (.int (x.leaf : Int))) := by
  obtain ⟨pr, st⟩ := stk_close h.stk hc
  have hlt := pr.lt
  have val : ∀ z : Int, valV (putK (putK (putK kvs (Sum.inl (x.leaf : Int)) v0) (Sum.inl (x.leaf : Int)) (.int (y.leaf : Int))) (Sum.inl (y.leaf : Int)) (.int (x.leaf : Int))) (Sum.inl z) = if z = (y.leaf : Int) then some (.int (x.leaf : Int)) else if z = (x.leaf : Int) then some (.int (y.leaf : Int)) else valV kvs (Sum.inl z) := fun z => by
    rw [valV_put, valV_put, valV_put]
    by_cases e1 : z = (y.leaf : Int)
    · rw [if_pos e1, if_pos (by rw [e1])]
    · rw [if_neg e1, if_neg (fun q => e1 (by injection q))]
      by_cases e2 : z = (x.leaf : Int)
      · rw [if_pos e2, if_pos (by rw [e2])]
      · rw [if_neg e2, if_neg (fun q => e2 (by injection q)), if_neg (fun q => e2 (by injection q))]
  refine ⟨fun i' p g' x' hi' hg' hx' => ?_, st, fun p x' hp hx' => ?_, fun p hp => Nat.lt_succ_of_lt (h.inn p (.tail _ hp))⟩
  · obtain ⟨v, h1, h2⟩ := h.old i' p g' x' hi' hg' hx'
    refine ⟨v, ?_, h2⟩
    rw [val, if_neg (fun e => ?_), if_neg (fun e => ?_), h1]
    · have := flat_inj ok.nd hg' hx' hg hx (by omega)
      omega
    · have := flat_inj ok.nd hg' hx' hg hy (by omega)
      omega
  · by_cases e : p = j
    · subst e
      rw [hx] at hx'
      cases hx'
      refine ⟨y.leaf, ?_, .inr (.inr (.inr ⟨p0, y, pr, hy, rfl⟩))⟩
      rw [val, if_neg (fun e => ?_), if_pos rfl]
      have := flat_inj ok.nd hg hx hg hy (by omega)
      omega
    · by_cases e2 : p = p0
      · subst e2
        rw [hy] at hx'
        cases hx'
        exact ⟨x.leaf, by rw [val, if_pos rfl], .inr (.inr (.inl ⟨j, x, pr, hx, rfl⟩))⟩
      · obtain ⟨v, h1, h2⟩ := h.cur p x' (by omega) hx'
        refine ⟨v, ?_, h2.more fun m => ?_⟩
        · rw [val, if_neg (fun e => ?_), if_neg (fun e => ?_), h1]
          · have := flat_inj ok.nd hg hx' hg hx (by omega)
            omega
          · have := flat_inj ok.nd hg hx' hg hy (by omega)
            omega
        · rcases List.mem_cons.mp m with z | z
          · exact absurd z e2
          · exact z
end
end Desk
end
section
set_option Elab.async false
set_option linter.all false
set_option maxRecDepth 100000
namespace Desk
open PySem PySem.Spec PyProof.Rows L2
open Quire (Bytes Sign)
open QuireSeen (Rd Side Lies Book readBook readFindings Findings)
section
variable {P : Program} {w : World} {K : PySem.W.Frag} {mg : Str → Option Value} {base : Heap} {c : Cs} {cb : Cb}
theorem lvs_cons {g : List Lies} {p : Nat} {ps : List Nat} {x : Lies} (h : g[p]? = some x) : lvs g (p :: ps) = x.leaf :: lvs g ps := by
  unfold lvs
  rw [List.map_cons, h]
  rfl
theorem nv_rev_snoc (l : List Nat) (n : Nat) : nv ((n :: l).reverse) = nv l.reverse ++ [.int (n : Int)] := by
  rw [List.reverse_cons]
  unfold nv
  rw [List.map_append]
  rfl
theorem ok_fp {f : Addr} {fd : FuncData} (F : Fun K "find_partners" "find_partners" s_find_partners f fd) (TB : TxtB K mg cb) : FnOk P w K mg base (CXx P w) 1 f fd ["gatherings"] (spFP cb) := by
  refine F.okx scFP (fun vs H Q E h => ?_) (fun cdv A outer s H vs Q E hr h => ?_)
  · obtain ⟨gl, ga, B, n, rfl, _⟩ := h
    rfl
  · obtain ⟨gl, ga, B, n, rfl, hgl, hB, ok, hn, k⟩ := h
    have hu := hu_of hr
    have hlen : B.flatten.length ≤ 16 := by rw [ok.len]; exact hn
    refine ⟨_, pss_cons (ps_set (i := 1) scFP.nd rfl (Or.inl rfl) pe_dnewK)
      (pss_cons (ps_set (i := 2) scFP.nd rfl (Or.inl rfl) (pe_lst pa_nil))
      (pss_cons (ps_for passes_own_x rfl (pi_list (pv 0)) (pg_name (i := 3) scFP.nd rfl (Or.inl rfl))
        (pss_one (ps_for passes_own_x rfl (pi_list (pv 3)) (pg_name (i := 4) scFP.nd rfl (Or.inl rfl))
          (pss_cons (ps_dput hu (pv 1) (pe_fld (pv 4) rfl) pe_int rfl)
          (pss_cons (ps_if (pt_cmpR op_eq (pe_fld (pv 4) rfl) (pe_con0 TB.cOP) (nomark _)) (pss_one (ps_expr (pe_bm PySem.F.plainAttrs_list PySem.F.slot_list_append PySem.F.type_list_append mt_append (pv 2) (pa_cons (pe_fld (pv 4) rfl) pa_nil)))) pss_nil)
          (pss_one (ps_if (pt_cmpR op_eq (pe_fld (pv 4) rfl) (pe_con0 TB.cCL) (nomark _))
            (pss_cons (ps_set (i := 5) scFP.nd rfl (Or.inl rfl) (pe_bm0 PySem.F.plainAttrs_list PySem.F.slot_list_pop PySem.F.type_list_pop mt_pop (pv 2)))
            (pss_cons (ps_dput hu (pv 1) (pe_fld (pv 4) rfl) (pv 5) rfl) (pss_one (ps_dput hu (pv 1) (pv 5) (pe_fld (pv 4) rfl) rfl)))) pss_nil)))))))
      (pss_one (ps_ret (pv 1))))), ?_⟩
    refine fun d nd => ⟨Nat.zero_le _, fun wl nwl => ?_⟩
    have s0 : Same H (upd H d (.dK [])) := fun z o h => by rw [upd_ne (ne_of_none h nd)]; exact h
    have s1 : Same (upd H d (.dK [])) (upd (upd H d (.dK [])) wl (.lst [])) := fun z o h => by rw [upd_ne (ne_of_none h nwl)]; exact h
    have nwH : H wl = none := s0.free nwl
    have ndw : d ≠ wl := fun z => by
      rw [← z, upd_same] at nwl
      cases nwl
    have sput : ∀ (H' : Hp) o, Same H H' → Same H (upd H' d o) := fun H' o s z u h => by rw [upd_ne (ne_of_none h nd)]; exact s z u h
    have sapp : ∀ (H' : Hp) o, Same H H' → Same H (upd H' wl o) := fun H' o s z u h => by rw [upd_ne (ne_of_none h nwH)]; exact s z u h
    refine ⟨_, rfl, gl, rfl, ⟨_, SqL.of (s1 _ _ (s0 _ _ hgl))⟩, for_list (K := K) (a := gl) (xs := ga.map V.ref) (fun i σ H' => ∃ (v3 v4 v5 : Option V) (kvs : List (Key × V)), σ = [some (.ref gl), some (.ref d), some (.ref wl), v3, v4, v5] ∧ Same H H' ∧ H' d = some (.dK kvs) ∧
      kvs.length ≤ 3 * ((B.take i).flatten).length ∧ H' wl = some (.lst []) ∧ PtAll B i kvs)
      ⟨none, none, none, [], rfl, s0.trans s1, s1 _ _ upd_same, Nat.zero_le _, upd_same, fun i' p g x hj => absurd hj (Nat.not_lt_zero _)⟩ (fun i σ H' _ ⟨_, _, _, _, _, s', _⟩ => SqL.of (s' _ _ hgl)) ?_ ?_⟩
    · rintro i y σ H' hy ⟨v3, v4, v5, kvs, rfl, s', hd, hkl, hw, hv⟩
      obtain ⟨a, g, vs, rfl, hg, ha, hG⟩ := hB.item hy
      obtain ⟨_, hdep⟩ := ok.gath g (List.mem_of_getElem? hg)
      refine ⟨_, rfl, a, rfl, ⟨_, SqL.of (s' _ _ ha)⟩, for_list (K := K) (a := a) (xs := vs) (fun j σ H' => ∃ (v4 v5 : Option V) (kvs : List (Key × V)) (ps : List Nat), σ = [some (.ref gl), some (.ref d), some (.ref wl), some (.ref a), v4, v5] ∧ Same H H' ∧ H' d = some (.dK kvs) ∧
        kvs.length ≤ 3 * (((B.take i).flatten).length + j) ∧ H' wl = some (.lst (nv (lvs g ps).reverse)) ∧ FPs B i g j ps kvs)
        ⟨v4, v5, kvs, [], rfl, s', hd, hkl, hw, hv, (by show dep 0 (Quire.part (sgs g) 0 0) = some 0; rw [part_self]; rfl), fun p x hp => absurd hp (Nat.not_lt_zero _), fun p hp => nomatch hp⟩ (fun j σ H' _ ⟨_, _, _, _, _, s', _⟩ => SqL.of (s' _ _ ha)) ?_ ?_⟩
      · rintro j y σ H' hy ⟨v4, v5, kvs, ps, rfl, s', hd, hkl, hw, S⟩
        obtain ⟨z, dz, x, rfl, hx, hz⟩ := hG.item hy
        have hb := flat_le (j := j) hg
        have hjl := (List.getElem?_eq_some_iff.mp hx).1
        have htj : (g.take j).length = j := by rw [List.length_take]; omega
        rw [htj] at hb
        have hsz : ∀ m, m ≤ 3 * (((B.take i).flatten).length + j) + 2 → m < sizeLine := fun m h => Nat.lt_of_le_of_lt (by omega : m ≤ 100) (by decide)
        have hsx := sgs_at hx
        have hfl : ∀ (v5 : Option V) (H2 : Hp), Same H H2 → Val (tFld K (tVar 4) "number") [some (.ref gl), some (.ref d), some (.ref wl), some (.ref a), some (.ref z), v5] H2 (.int (x.leaf : Int)) := fun v5 H2 s => val_fld (val_var rfl) (s _ _ hz) TB.clL TB.nNu (lf_number _ _ _)
        have hfs : ∀ (v5 : Option V) (H2 : Hp), Same H H2 → Val (tFld K (tVar 4) "sign") [some (.ref gl), some (.ref d), some (.ref wl), some (.ref a), some (.ref z), v5] H2 (.int (sgB x.sign : Int)) := fun v5 H2 s => val_fld (val_var rfl) (s _ _ hz) TB.clL TB.nSi (lf_sign _ _ _)
        refine to_dput rfl hd (hfl _ _ s') val_c (hsz _ (by omega)) ?_
        have s2 := sput H' (.dK (putK kvs (Sum.inl (x.leaf : Int)) (.int 0))) s'
        have hw2 : upd H' d (.dK (putK kvs (Sum.inl (x.leaf : Int)) (.int 0))) wl = some (.lst (nv (lvs g ps).reverse)) := by rw [upd_ne (Ne.symm ndw)]; exact hw
        have hl1 := putK_len kvs (Sum.inl (x.leaf : Int)) (.int 0)
        have hleaf := (ok.mem x (List.mem_of_getElem? (flat_at hg hx))).2.2
        have hcase : x.sign = .opens ∨ x.sign = .alone ∨ x.sign = .closes := by
          cases hs : x.sign <;> rw [hs] at hleaf <;> first | exact .inl rfl | exact .inr (.inl rfl) | exact .inr (.inr rfl) | exact absurd hleaf (by decide)
        rcases hcase with hs | hs | hs
        · refine to_if (tst_eqI (hfs _ _ s2) val_c) (fun _ => ?_) fun hz => ?_
          · refine to_append rfl hw2 (hfl _ _ s2) ?_ ?_
            · have hps : ps.length ≤ j := by
                have e1 := stk_dep S.stk
                have e2 : ∀ (u : Quire.Word) (a b : Nat), dep a u = some b → b ≤ a + u.length := fun u => by
                  induction u with
                  | nil => intro a b h; cases h; exact Nat.le_refl _
                  | cons sg r ih =>
                    intro a b h
                    cases sg with
                    | alone => exact Nat.le_trans (ih a b h) (by simp)
                    | opens => exact Nat.le_trans (ih (a + 1) b h) (by simp; omega)
                    | closes =>
                      cases a with
                      | zero => cases h
                      | succ a => exact Nat.le_trans (ih a b h) (by simp; omega)
                    | stubOpens => cases h
                    | stubCloses => cases h
                have := e2 _ _ _ e1
                have e3 : (Quire.part (sgs g) 0 j).length ≤ j := by
                  unfold Quire.part
                  rw [List.length_take]
                  omega
                omega
              rw [len_nv, List.length_reverse]
              unfold lvs
              rw [List.length_map]
              exact hsz _ (by omega)
            · refine to_if (tst_eqI (hfs _ _ (sapp _ _ s2)) val_c) (fun hz => ?_) fun _ => ?_
              · rw [decide_eq_true_iff, sg_close2, hs] at hz
                cases hz
              · refine to_next ⟨_, _, _, j :: ps, rfl, sapp _ _ s2, by rw [upd_ne ndw]; exact upd_same, Nat.le_trans hl1 (by omega), ?_, S.put (u := 0) ok hg hx (stk_open S.stk (by rw [hsx, hs])) (fun p m => .tail _ m) (fun p m => ?_) (.inr (.inl ⟨.head _, rfl⟩))⟩
                · rw [upd_same, lvs_cons hx, nv_rev_snoc]
                · rcases List.mem_cons.mp m with rfl | m
                  · exact Nat.lt_succ_self _
                  · exact Nat.lt_succ_of_lt (S.inn p m)
          · rw [decide_eq_false_iff_not, sg_open2] at hz
            exact absurd hs hz
        · refine to_if (tst_eqI (hfs _ _ s2) val_c) (fun hz => ?_) fun _ => ?_
          · rw [decide_eq_true_iff, sg_open2, hs] at hz
            cases hz
          · refine to_next ?_
            dsimp only
            refine to_if (tst_eqI (hfs _ _ s2) val_c) (fun hz => ?_) fun _ => ?_
            · rw [decide_eq_true_iff, sg_close2, hs] at hz
              cases hz
            · exact to_next ⟨_, _, _, ps, rfl, s2, upd_same, Nat.le_trans hl1 (by omega), hw2, S.put (u := 0) ok hg hx (stk_alone S.stk (by rw [hsx, hs])) (fun p m => m) (fun p m => Nat.lt_succ_of_lt (S.inn p m)) (.inl ⟨by rw [hsx, hs], rfl⟩)⟩
        · refine to_if (tst_eqI (hfs _ _ s2) val_c) (fun hz => ?_) fun _ => ?_
          · rw [decide_eq_true_iff, sg_open2, hs] at hz
            cases hz
          · refine to_next ?_
            dsimp only
            refine to_if (tst_eqI (hfs _ _ s2) val_c) (fun _ => ?_) fun hz => ?_
            · have hcl : (sgs g)[j]? = some .closes := by rw [hsx, hs]
              cases ps with
              | nil => exact (stk_none hdep S.stk hcl).elim
              | cons p0 ps =>
                have hp0 := S.inn p0 (.head _)
                obtain ⟨y, hy⟩ : ∃ y, g[p0]? = some y := ⟨_, List.getElem?_eq_getElem (by omega)⟩
                rw [lvs_cons hy, nv_rev_snoc] at hw2
                refine ⟨_, rfl, .inl ⟨rfl, _, SqL.of hw2⟩, wl, _, .int (y.leaf : Int), rfl, rfl, hw2, by simp, ?_⟩
                rw [List.dropLast_concat]
                have s3 := sapp _ (.lst (nv (lvs g ps).reverse)) s2
                have hd3 : upd (upd H' d (.dK (putK kvs (Sum.inl (x.leaf : Int)) (.int 0)))) wl (.lst (nv (lvs g ps).reverse)) d = some (.dK (putK kvs (Sum.inl (x.leaf : Int)) (.int 0))) := by rw [upd_ne ndw]; exact upd_same
                refine to_dput rfl hd3 (hfl _ _ s3) (val_var rfl) (hsz _ (by omega)) ?_
                have s4 := sput _ (.dK (putK (putK kvs (Sum.inl (x.leaf : Int)) (.int 0)) (Sum.inl (x.leaf : Int)) (.int (y.leaf : Int)))) s3
                have hl2 := putK_len (putK kvs (Sum.inl (x.leaf : Int)) (.int 0)) (Sum.inl (x.leaf : Int)) (.int (y.leaf : Int))
                refine to_dput rfl upd_same (val_var rfl) (hfl _ _ s4) (hsz _ (by omega)) ?_
                have hl3 := putK_len (putK (putK kvs (Sum.inl (x.leaf : Int)) (.int 0)) (Sum.inl (x.leaf : Int)) (.int (y.leaf : Int))) (Sum.inl (y.leaf : Int)) (.int (x.leaf : Int))
                refine ⟨_, _, _, ps, rfl, sput _ _ s4, upd_same, by omega, ?_, S.pair ok hg hx hy hcl⟩
                rw [upd_ne (Ne.symm ndw), upd_ne (Ne.symm ndw), upd_same]
            · rw [decide_eq_false_iff_not, sg_close2] at hz
              exact absurd hs hz
      · rintro σ H' ⟨v4, v5, kvs, ps, rfl, s', hd, hkl, hw, S⟩
        have hps : ps = [] := stk_end hdep (by
          have := S.stk
          rw [hG.1] at this
          show Stk (sgs g) ps (g.map fun x => x.sign).length
          rw [List.length_map]
          exact this)
        subst hps
        refine ⟨_, _, _, kvs, rfl, s', hd, ?_, hw, fun i' p g' x' hi' hg' hx' => ?_⟩
        · rw [take_flat hg, List.length_append]
          rw [hG.1] at hkl
          exact hkl
        · by_cases e : i' = i
          · subst e
            rw [hg] at hg'
            cases hg'
            exact S.cur p x' (by rw [hG.1]; exact (List.getElem?_eq_some_iff.mp hx').1) hx'
          · exact S.old i' p g' x' (by omega) hg' hx'
    · rintro σ H' ⟨v3, v4, v5, kvs, rfl, s', hd, hkl, hw, hv⟩
      rw [List.length_map, hB.len] at hv
      exact to_ret (val_var rfl) (k _ _ kvs hd hv s')
/-! ### Lying -/
def yf (so sp gn pt : Addr) : List (Str × V) := [("sides_in_order", .ref so), ("side_places", .ref sp), ("gathering_numbers", .ref gn), ("partners", .ref pt)]
theorem yf_so (so sp gn pt : Addr) : (yf so sp gn pt).lookup ("sides_in_order" : Str) = some (.ref so) := by
  simp only [yf, List.lookup, beq_self_eq_true]
theorem yf_sp (so sp gn pt : Addr) : (yf so sp gn pt).lookup ("side_places" : Str) = some (.ref sp) := by
  have e : (("side_places" : Str) == ("sides_in_order" : Str)) = false := by decide +kernel
  simp only [yf, List.lookup, e, beq_self_eq_true]
theorem yf_gn (so sp gn pt : Addr) : (yf so sp gn pt).lookup ("gathering_numbers" : Str) = some (.ref gn) := by
  have e : (("gathering_numbers" : Str) == ("sides_in_order" : Str)) = false := by decide +kernel
  have e1 : (("gathering_numbers" : Str) == ("side_places" : Str)) = false := by decide +kernel
  simp only [yf, List.lookup, e, e1, beq_self_eq_true]
theorem yf_pt (so sp gn pt : Addr) : (yf so sp gn pt).lookup ("partners" : Str) = some (.ref pt) := by
  have e : (("partners" : Str) == ("sides_in_order" : Str)) = false := by decide +kernel
  have e1 : (("partners" : Str) == ("side_places" : Str)) = false := by decide +kernel
  have e2 : (("partners" : Str) == ("gathering_numbers" : Str)) = false := by decide +kernel
  simp only [yf, List.lookup, e, e1, e2, beq_self_eq_true]
theorem yf_no (so sp gn pt : Addr) {m : Str} (h1 : (m == ("sides_in_order" : Str)) = false) (h2 : (m == ("side_places" : Str)) = false) (h3 : (m == ("gathering_numbers" : Str)) = false) (h4 : (m == ("partners" : Str)) = false) : (yf so sp gn pt).lookup m = none := by
  simp only [yf, List.lookup, h1, h2, h3, h4]
theorem yf_make (so sp gn pt : Addr) : putF "partners" (.ref pt) (putF "gathering_numbers" (.ref gn) (putF "side_places" (.ref sp) (putF "sides_in_order" (.ref so) []))) = yf so sp gn pt := by
  have a1 : ¬ (("sides_in_order" : Str) = ("side_places" : Str)) := by decide +kernel
  have a2 : ¬ (("sides_in_order" : Str) = ("gathering_numbers" : Str)) := by decide +kernel
  have a3 : ¬ (("sides_in_order" : Str) = ("partners" : Str)) := by decide +kernel
  have a4 : ¬ (("side_places" : Str) = ("gathering_numbers" : Str)) := by decide +kernel
  have a5 : ¬ (("side_places" : Str) = ("partners" : Str)) := by decide +kernel
  have a6 : ¬ (("gathering_numbers" : Str) = ("partners" : Str)) := by decide +kernel
  simp only [yf, putF, if_neg a1, if_neg a2, if_neg a3, if_neg a4, if_neg a5, if_neg a6]
/-- what a Lying knows -/
structure LyF (B : Book) (H : Hp) (so sp gn pt : Addr) : Prop where
  so : H so = some (.lst (nv (sk B.flatten)))
  sp : ∃ kvs, H sp = some (.dK kvs) ∧ ∀ (j k : Nat), (sk B.flatten)[j]? = some k → valV kvs (Sum.inl (k : Int)) = some (.int (j : Int))
  gn : ∃ kvs, H gn = some (.dK kvs) ∧ ∀ (i p : Nat) (g : List Lies) (x : Lies), B[i]? = some g → g[p]? = some x → valV kvs (Sum.inl (x.leaf : Int)) = some (.int (i : Int))
  pt : ∃ kvs, H pt = some (.dK kvs) ∧ ∀ (i p : Nat) (g : List Lies) (x : Lies), B[i]? = some g → g[p]? = some x → valV kvs (Sum.inl (x.leaf : Int)) = some (.int (B.partner x.leaf : Int))
structure RepY (cy : Addr) (B : Book) (H : Hp) (y dy so sp gn pt : Addr) : Prop where
  obj : H y = some (.ins cy dy (yf so sp gn pt))
  ly : LyF B H so sp gn pt
theorem LyF.same {B : Book} {H H' : Hp} {so sp gn pt : Addr} (h : LyF B H so sp gn pt) (s : Same H H') : LyF B H' so sp gn pt :=
  ⟨s _ _ h.so, let ⟨k, a, b⟩ := h.sp; ⟨k, s _ _ a, b⟩, let ⟨k, a, b⟩ := h.gn; ⟨k, s _ _ a, b⟩, let ⟨k, a, b⟩ := h.pt; ⟨k, s _ _ a, b⟩⟩
theorem RepY.same {cy : Addr} {B : Book} {H H' : Hp} {y dy so sp gn pt : Addr} (h : RepY cy B H y dy so sp gn pt) (s : Same H H') : RepY cy B H' y dy so sp gn pt := ⟨s _ _ h.obj, h.ly.same s⟩
theorem nodup_of {α : Type} : ∀ (xs : List α), (∀ (i j : Nat) (x : α), xs[i]? = some x → xs[j]? = some x → i = j) → xs.Nodup
  | [], _ => .nil
  | x :: xs, h => by
    refine List.nodup_cons.mpr ⟨fun m => ?_, nodup_of xs fun i j y a b => ?_⟩
    · obtain ⟨k, hk⟩ := List.getElem?_of_mem m
      have := h 0 (k + 1) x rfl hk
      omega
    · have := h (i + 1) (j + 1) y a b
      omega
theorem sk_nodup {n : Nat} {B : Book} (ok : BOk n B) : (sk B.flatten).Nodup := by
  rw [← sk_sides]
  refine nodup_of _ fun i j k a b => ?_
  rw [List.getElem?_map] at a b
  cases ea : B.sides[i]? with
  | none =>
    rw [ea] at a
    cases a
  | some x =>
    cases eb : B.sides[j]? with
    | none =>
      rw [eb] at b
      cases b
    | some y =>
      rw [ea] at a
      rw [eb] at b
      have e : x.key = y.key := (Option.some.inj a).trans (Option.some.inj b).symm
      rw [key_inj e] at ea
      exact side_place ok ea eb
def spYInit (cb : Cb) (cy : Addr) : Sp := fun vs H Q _ => ∃ (y dy gl : Addr) (ga : List Addr) (B : Book) (n : Nat), vs = [.ref y, .ref gl] ∧ H y = some (.ins cy dy []) ∧ H gl = some (.lst (ga.map V.ref)) ∧ RepB cb B ga H ∧ BOk n B ∧ n ≤ 16 ∧
  ∀ H' so sp gn pt, RepY cy B H' y dy so sp gn pt → Keep y H H' → Q .non H'
theorem scYI : FnScope ["self", "gatherings"] ["self", "gatherings"] (defScope s_Lying_init) := ⟨rfl, rfl, rfl, by decide +kernel, rfl, by decide +kernel, by decide +kernel⟩
/-- the four readings of a book's gatherings -/
structure Four (P : Program) (w : World) (K : PySem.W.Frag) (mg : Str → Option Value) (base : Heap) (cb : Cb) (f1 f2 f3 f4 : Addr) (d1 d2 d3 d4 : FuncData) : Prop where
  g1 : FnOk P w K mg base (CXx P w) 1 f1 d1 ["gatherings"] (spLS cb)
  g2 : FnOk P w K mg base (CXx P w) 1 f2 d2 ["sides"] spNS
  g3 : FnOk P w K mg base (CXx P w) 1 f3 d3 ["gatherings"] (spNG cb)
  g4 : FnOk P w K mg base (CXx P w) 1 f4 d4 ["gatherings"] (spFP cb)
  b1 : Binds K d1 ["gatherings"] []
  b2 : Binds K d2 ["sides"] []
  b3 : Binds K d3 ["gatherings"] []
  b4 : Binds K d4 ["gatherings"] []
  k1 : PySem.W.keepIn K (.ref f1) = true
  k2 : PySem.W.keepIn K (.ref f2) = true
  k3 : PySem.W.keepIn K (.ref f3) = true
  k4 : PySem.W.keepIn K (.ref f4) = true
  m1 : mg "list_sides" = some (.ref f1)
  m2 : mg "number_sides" = some (.ref f2)
  m3 : mg "number_gatherings" = some (.ref f3)
  m4 : mg "find_partners" = some (.ref f4)
theorem ok_yinit {f f1 f2 f3 f4 cy : Addr} {fd d1 d2 d3 d4 : FuncData} (F : Fun K "__init__" "Lying.__init__" s_Lying_init f fd) (TY : TxtY K mg cy) (G : Four P w K mg base cb f1 f2 f3 f4 d1 d2 d3 d4) : FnOk P w K mg base (CXx P w) 2 f fd ["self", "gatherings"] (spYInit cb cy) := by
  refine F.okx scYI (fun vs H Q E h => ?_) (fun cdv A outer s H vs Q E hr h => ?_)
  · obtain ⟨y, dy, gl, ga, B, n, rfl, _⟩ := h
    rfl
  · obtain ⟨y, dy, gl, ga, B, n, rfl, hy, hgl, hB, ok, hn, k⟩ := h
    refine ⟨_, pss_cons (ps_fld (pv 0) (pe_call G.g1 hr rfl G.m1 G.k1 G.b1 .nil pass_x (pa_cons (pv 1) pa_nil)) rfl)
      (pss_cons (ps_fld (pv 0) (pe_call G.g2 hr rfl G.m2 G.k2 G.b2 .nil pass_x (pa_cons (pe_fld (pv 0) rfl) pa_nil)) rfl)
      (pss_cons (ps_fld (pv 0) (pe_call G.g3 hr rfl G.m3 G.k3 G.b3 .nil pass_x (pa_cons (pv 1) pa_nil)) rfl)
      (pss_one (ps_fld (pv 0) (pe_call G.g4 hr rfl G.m4 G.k4 G.b4 .nil pass_x (pa_cons (pv 1) pa_nil)) rfl)))), ?_⟩
    have hlen : B.flatten.length ≤ 16 := by rw [ok.len]; exact hn
    have lstore : ∀ (H1 : Hp) (fs fs' : List (Str × V)), H1 y = some (.ins cy dy fs) → Keep y H1 (upd H1 y (.ins cy dy fs')) := fun H1 fs fs' h => .set
    have gstore : ∀ (H1 : Hp) o, H1 gl = some (.lst (ga.map V.ref)) → H1 y = some o → (∀ xs, o ≠ .lst xs) → ∀ u, upd H1 y u gl = some (.lst (ga.map V.ref)) := fun H1 o h1 h2 h3 u => by rw [upd_ne (ne_of h1 h2 (fun z => h3 _ z.symm))]; exact h1
    have bstore : ∀ (H1 : Hp) (fs fs' : List (Str × V)), RepB cb B ga H1 → H1 y = some (.ins cy dy fs) → (∀ x, fs ≠ lx x) → RepB cb B ga (upd H1 y (.ins cy dy fs')) := fun H1 fs fs' h1 h2 h3 =>
      h1.to (fun a xs _ e => by rw [upd_ne (ne_of e h2 (by intro z; cases z))]; exact e) fun x v q => by
        obtain ⟨z, dz, e, hz⟩ := q
        refine ⟨z, dz, e, ?_⟩
        rw [upd_ne (fun ez => ?_)]
        · exact hz
        · rw [ez, h2] at hz
          injection hz with hz
          injection hz with _ _ hz
          exact h3 x hz
    have nl : ∀ (f0 : Str) (v0 : V) (r : List (Str × V)), (f0 == ("number" : Str)) = false → ∀ x, (f0, v0) :: r ≠ lx x := fun f0 v0 r hf x e => by
      unfold lx lf at e
      injection e with e _
      injection e with e _
      rw [e] at hf
      exact absurd hf (by decide +kernel)
    -- sides_in_order
    refine to_call (vls_cons (val_var rfl) vls_nil) ⟨gl, ga, B, rfl, hgl, hB, hlen, fun H1 so hso s1 => ?_⟩
    have hy1 := s1 _ _ hy
    refine ⟨_, rfl, y, cy, dy, _, rfl, hy1, TY.cl, TY.nSo, (by show 0 < 1000; decide), ?_⟩
    have e1 : putF "sides_in_order" (.ref so) [] = [(("sides_in_order" : Str), V.ref so)] := rfl
    rw [e1]
    have hgl2 := gstore H1 _ (s1 _ _ hgl) hy1 (fun _ z => nomatch z) (.ins cy dy [("sides_in_order", .ref so)])
    have hB2 := bstore H1 _ [("sides_in_order", .ref so)] (hB.same s1) hy1 (fun x e => by unfold lx lf at e; cases e)
    have hso2 : upd H1 y (.ins cy dy [("sides_in_order", .ref so)]) so = some (.lst (nv (sk B.flatten))) := by rw [upd_ne (ne_of hso hy1 (by intro z; cases z))]; exact hso
    have kp2 : Keep y H (upd H1 y (.ins cy dy [("sides_in_order", .ref so)])) := (Keep.same s1).trans .set
    generalize hH2 : upd H1 y (.ins cy dy [("sides_in_order", .ref so)]) = H2 at hgl2 hB2 hso2 kp2
    have hy2 : H2 y = some (.ins cy dy [("sides_in_order", .ref so)]) := by rw [← hH2]; exact upd_same
    -- side_places
    refine to_call (vls_cons (val_fld (val_var rfl) hy2 TY.cl TY.nSo (by simp only [List.lookup, beq_self_eq_true])) vls_nil) ⟨so, _, rfl, hso2, sk_nodup ok, by rw [sk_len]; omega, fun H3 sp kv1 hsp hkv1 s3 => ?_⟩
    have hy3 := s3 _ _ hy2
    refine ⟨_, rfl, y, cy, dy, _, rfl, hy3, TY.cl, TY.nSp, (by show 1 < 1000; decide), ?_⟩
    have hgl4 := gstore H3 _ (s3 _ _ hgl2) hy3 (fun _ z => nomatch z) (.ins cy dy (putF "side_places" (.ref sp) [("sides_in_order", .ref so)]))
    have hB4 := bstore H3 _ (putF "side_places" (.ref sp) [("sides_in_order", .ref so)]) (hB2.same s3) hy3 (nl _ _ _ (by decide +kernel))
    have kp4 := (kp2.trans (.same s3)).trans (Keep.set (o := .ins cy dy (putF "side_places" (.ref sp) [("sides_in_order", .ref so)])))
    have hso4 : upd H3 y (.ins cy dy (putF "side_places" (.ref sp) [("sides_in_order", .ref so)])) so = some (.lst (nv (sk B.flatten))) := by rw [upd_ne (ne_of (s3 _ _ hso2) hy3 (by intro z; cases z))]; exact s3 _ _ hso2
    have hsp4 : upd H3 y (.ins cy dy (putF "side_places" (.ref sp) [("sides_in_order", .ref so)])) sp = some (.dK kv1) := by rw [upd_ne (ne_of hsp hy3 (by intro z; cases z))]; exact hsp
    have e2 : putF "side_places" (.ref sp) [(("sides_in_order" : Str), V.ref so)] = [(("sides_in_order" : Str), V.ref so), (("side_places" : Str), V.ref sp)] := by
      simp only [putF, if_neg (show ¬ (("sides_in_order" : Str) = ("side_places" : Str)) by decide +kernel)]
    rw [e2] at hgl4 hB4 kp4 hso4 hsp4 ⊢
    generalize hH4 : upd H3 y (.ins cy dy [("sides_in_order", V.ref so), ("side_places", V.ref sp)]) = H4 at hgl4 hB4 kp4 hso4 hsp4
    have hy4 : H4 y = some (.ins cy dy [("sides_in_order", V.ref so), ("side_places", V.ref sp)]) := by rw [← hH4]; exact upd_same
    -- gathering_numbers
    refine to_call (vls_cons (val_var rfl) vls_nil) ⟨gl, ga, B, n, rfl, hgl4, hB4, ok, hn, fun H5 gn kv2 hgn hkv2 s5 => ?_⟩
    have hy5 := s5 _ _ hy4
    refine ⟨_, rfl, y, cy, dy, _, rfl, hy5, TY.cl, TY.nGn, (by show 2 < 1000; decide), ?_⟩
    have e3 : putF "gathering_numbers" (.ref gn) [(("sides_in_order" : Str), V.ref so), (("side_places" : Str), V.ref sp)] = [(("sides_in_order" : Str), V.ref so), (("side_places" : Str), V.ref sp), (("gathering_numbers" : Str), V.ref gn)] := by
      simp only [putF, if_neg (show ¬ (("sides_in_order" : Str) = ("gathering_numbers" : Str)) by decide +kernel), if_neg (show ¬ (("side_places" : Str) = ("gathering_numbers" : Str)) by decide +kernel)]
    rw [e3]
    have hgl6 := gstore H5 _ (s5 _ _ hgl4) hy5 (fun _ z => nomatch z) (.ins cy dy [("sides_in_order", V.ref so), ("side_places", V.ref sp), ("gathering_numbers", V.ref gn)])
    have hB6 := bstore H5 _ [("sides_in_order", V.ref so), ("side_places", V.ref sp), ("gathering_numbers", V.ref gn)] (hB4.same s5) hy5 (nl _ _ _ (by decide +kernel))
    have kp6 := (kp4.trans (.same s5)).trans (Keep.set (o := .ins cy dy [("sides_in_order", V.ref so), ("side_places", V.ref sp), ("gathering_numbers", V.ref gn)]))
    have up6 : ∀ z o, H5 z = some o → (∀ fs, o ≠ .ins cy dy fs) → upd H5 y (.ins cy dy [("sides_in_order", V.ref so), ("side_places", V.ref sp), ("gathering_numbers", V.ref gn)]) z = some o := fun z o h no => by
      rw [upd_ne (ne_of h hy5 (no _))]
      exact h
    have hso6 := up6 _ _ (s5 _ _ hso4) (fun _ z => nomatch z)
    have hsp6 := up6 _ _ (s5 _ _ hsp4) (fun _ z => nomatch z)
    have hgn6 := up6 _ _ hgn (fun _ z => nomatch z)
    generalize hH6 : upd H5 y (.ins cy dy [("sides_in_order", V.ref so), ("side_places", V.ref sp), ("gathering_numbers", V.ref gn)]) = H6 at hgl6 hB6 kp6 hso6 hsp6 hgn6
    have hy6 : H6 y = some (.ins cy dy [("sides_in_order", V.ref so), ("side_places", V.ref sp), ("gathering_numbers", V.ref gn)]) := by rw [← hH6]; exact upd_same
    -- partners
    refine to_call (vls_cons (val_var rfl) vls_nil) ⟨gl, ga, B, n, rfl, hgl6, hB6, ok, hn, fun H7 pt kv3 hpt hkv3 s7 => ?_⟩
    have hy7 := s7 _ _ hy6
    refine ⟨_, rfl, y, cy, dy, _, rfl, hy7, TY.cl, TY.nPt, (by show 3 < 1000; decide), ?_⟩
    have up8 : ∀ z o u, H7 z = some o → (∀ fs, o ≠ .ins cy dy fs) → upd H7 y u z = some o := fun z o u h no => by
      rw [upd_ne (ne_of h hy7 (no _))]
      exact h
    refine k _ so sp gn pt ⟨upd_same.trans ?_, up8 _ _ _ (s7 _ _ hso6) (fun _ z => nomatch z), ⟨kv1, up8 _ _ _ (s7 _ _ hsp6) (fun _ z => nomatch z), hkv1⟩, ⟨kv2, up8 _ _ _ (s7 _ _ hgn6) (fun _ z => nomatch z), hkv2⟩, ⟨kv3, up8 _ _ _ hpt (fun _ z => nomatch z), fun i p g x hg hx => ?_⟩⟩ ((kp6.trans (.same s7)).trans .set)
    · have := yf_make so sp gn pt
      rw [show putF "sides_in_order" (V.ref so) [] = [(("sides_in_order" : Str), V.ref so)] from rfl, e2, e3] at this
      exact congrArg (fun q => some (HO.ins cy dy q)) this
    · obtain ⟨v, h1, h2⟩ := hkv3 i p g x (List.getElem?_eq_some_iff.mp hg).1 hg hx
      rw [h1, partner_of ok hg hx h2]
end
end Desk
end
section
set_option Elab.async false
set_option linter.all false
set_option maxRecDepth 100000
namespace Desk
open PySem PySem.Spec PyProof.Rows L2
open Quire (Bytes Sign)
open QuireSeen (Rd Side Lies Book readBook readFindings Findings isLeafOf)
section
variable {P : Program} {w : World} {K : PySem.W.Frag} {mg : Str → Option Value} {base : Heap} {c : Cs} {cb : Cb} {cy : Addr}
structure YM (P : Program) (w : World) (K : PySem.W.Frag) (mg : Str → Option Value) (base : Heap) (cb : Cb) (cy : Addr) (f : Addr) (fd : FuncData) : Prop where
  M : Mk K cy f
  G : FnOk P w K mg base (CXx P w) 2 f fd ["self", "gatherings"] (spYInit cb cy)
  b : Binds K fd ["self", "gatherings"] []
theorem to_setE {te : TE} {i : Nat} {u : TS} {D : Ends} {σ : L2.St} {H : Hp} (h : te σ H fun x H1 => u D (σ.set i (some x)) H1) : tSeq (tAsg te (gName i)) u D σ H := h
theorem to_retL {t : TA} {vs : List V} {D : Ends} {σ : L2.St} {H : Hp} (h : Vls t σ H vs) (hz : vs.length ≤ sizeLine) (k : ∀ p, H p = none → D.rt (.ref p) (upd H p (.lst vs))) : tRet (tLst t) D σ H := h _ ⟨hz, k⟩
/-- Lying(case.gatherings) -/
theorem to_lying {σ : L2.St} {H : Hp} {E : XK} {Q : VK} {te : TE} {gl : Addr} {ga : List Addr} {B : Book} {n : Nat} (hv : Val te σ H (.ref gl)) (hgl : H gl = some (.lst (ga.map V.ref))) (hB : RepB cb B ga H) (ok : BOk n B) (hn : n ≤ 16)
    (k : ∀ H' y dy so sp gn pt, RepY cy B H' y dy so sp gn pt → Same H H' → Q (.ref y) H') : tMake cy (spYInit cb cy) [] E (tCons te tNil) σ H Q := by
  refine hv _ fun y dy ny nd ne => ⟨y, dy, gl, ga, B, n, rfl, upd_same, ?_, ?_, ok, hn, fun H' so sp gn pt hY kp => ⟨rfl, ?_⟩⟩
  · rw [upd_ne (ne_of_none hgl ny), upd_ne (ne_of_none hgl nd)]
    exact hgl
  · exact hB.same fun z o h => by rw [upd_ne (ne_of_none h ny), upd_ne (ne_of_none h nd)]; exact h
  · exact k H' y dy so sp gn pt hY (Same.made ny nd kp)
theorem both_eq (t u : Bytes) (f : Findings → Book → List Int) : QuireC.both t u f = if 8192 < t.length ∨ 8192 < u.length then [-2] else (match readFindings t with | .error _ => [-6] | .ok F => match readBook F.n u with | .error _ => [-3] | .ok B => f F B) := rfl
/-- the answers of the calls on t and u -/
theorem ans_both {t u : Bytes} {z : Int} {zs : List Int} (h : Refu t u (z :: zs)) (f : Findings → Book → List Int) : QuireC.both t u f = [z] := by
  rw [both_eq]
  rcases h with ⟨h0, e⟩ | ⟨h0, ⟨x, h1, e⟩ | ⟨F, x, h1, h2, e⟩⟩
  · cases e
    rw [if_pos h0]
  · cases e
    rw [if_neg h0, h1]
  · cases e
    rw [if_neg h0, h1]
    dsimp only
    rw [h2]
theorem ok_both {t u : Bytes} {F : Findings} {B : Book} (h0 : ¬ (8192 < t.length ∨ 8192 < u.length)) (h1 : readFindings t = .ok F) (h2 : readBook F.n u = .ok B) (f : Findings → Book → List Int) : QuireC.both t u f = f F B := by
  rw [both_eq]
  rw [if_neg h0, h1]
  dsimp only
  rw [h2]
theorem refu_cons {t u : Bytes} {zs : List Int} (h : Refu t u zs) : ∃ z r, zs = z :: r := by
  rcases h with ⟨_, e⟩ | ⟨_, ⟨x, _, e⟩ | ⟨F, x, _, _, e⟩⟩ <;> exact ⟨_, _, e⟩
theorem val_dget {σ : L2.St} {H : Hp} {td ty : TE} {d : Addr} {kvs : List (Key × V)} {z : Int} {v : V} (h1 : Val td σ H (.ref d)) (h2 : Val ty σ H (.int z)) (hd : H d = some (.dK kvs)) (hv : valV kvs (Sum.inl z) = some v) : Val (tDGet td ty) σ H v :=
  fun Q q => h1 _ (h2 _ ⟨d, v, rfl, by rw [← hv]; exact DGet.k (k := Sum.inl z) hd, q⟩)
theorem val_mod {σ : L2.St} {H : Hp} {ta tb : TE} {i j : Int} (ha : Val ta σ H (.int i)) (hb : Val tb σ H (.int j)) (h : 0 < j) : Val (tOp (rI (fun _ j => 0 < j) fun i j => .int (i % j)) ta tb) σ H (.int (i % j)) := val_op ha hb fun _ q => ⟨i, j, rfl, rfl, h, q⟩
/-- where a side stands -/
theorem LyF.place {n : Nat} {B : Book} {H : Hp} {so sp gn pt : Addr} (h : LyF B H so sp gn pt) (ok : BOk n B) {s : Side} (h1 : 1 ≤ s.leaf) (h2 : s.leaf ≤ n) : ∃ kvs, H sp = some (.dK kvs) ∧ valV kvs (Sum.inl (s.key : Int)) = some (.int (B.at_ s : Int)) := by
  obtain ⟨kvs, e1, e2⟩ := h.sp
  refine ⟨kvs, e1, e2 _ _ ?_⟩
  rw [← sk_sides, List.getElem?_map, side_mem ok h1 h2]
  rfl
end
end Desk
end
section
set_option Elab.async false
set_option linter.all false
set_option maxRecDepth 100000
namespace Desk
open PySem PySem.Spec PyProof.Rows L2
open Quire (Bytes Sign)
open QuireSeen (Rd Side Lies Book readBook readFindings Findings isLeafOf)
section
variable {P : Program} {w : World} {K : PySem.W.Frag} {mg : Str → Option Value} {base : Heap} {c : Cs} {cb : Cb} {cy : Addr}
def spSides (K : PySem.W.Frag) : Sp := fun vs H Q _ => ∃ (a b : Addr) (ns ms : List Int), vs = [.ref a, .ref b] ∧ SqL K H a (ns.map V.int) ∧ ns.length ≤ 16384 ∧ (∀ z ∈ ns, 0 ≤ z ∧ z ≤ 255) ∧ SqL K H b (ms.map V.int) ∧ ms.length ≤ 16384 ∧ (∀ z ∈ ms, 0 ≤ z ∧ z ≤ 255) ∧
  ∀ (H' : Hp) (p : Addr), H' p = some (.lst ((PyWqauce.sides ns ms).map V.int)) → Q (.ref p) H'
abbrev NSd : List Str := ["t", "u", "case", "refusal", "in_order"]
theorem scSd : FnScope NSd ["t", "u"] (defScope s_sides) := ⟨rfl, rfl, rfl, by decide +kernel, rfl, by decide +kernel, by decide +kernel⟩
theorem ok_sides {f fS fY : Addr} {fd dS dY : FuncData} (F : Fun K "sides" "sides" s_sides f fd) (T : Txt K mg c) (TB : TxtB K mg cb) (TY : TxtY K mg cy) (Y : YM P w K mg base cb cy fY dY)
    (GS : FnOk P w K mg base (CXx P w) 11 fS dS ["t", "u"] (spCase K c cb)) (bS : Binds K dS ["t", "u"] []) (kS : PySem.W.keepIn K (.ref fS) = true) (mS : mg "read_case" = some (.ref fS))
    (eL : PySem.W.exmAny K (.ref c.L) [.ref c.L, .ref c.F, .ref c.B] = some true) (eF : PySem.W.exmAny K (.ref c.F) [.ref c.L, .ref c.F, .ref c.B] = some true) (eB : PySem.W.exmAny K (.ref c.B) [.ref c.L, .ref c.F, .ref c.B] = some true) :
    FnOk P w K mg base (CXx P w) 12 f fd ["t", "u"] (spSides K) := by
  refine F.okx scSd (fun vs H Q E h => ?_) (fun cdv A outer s H vs Q E hr h => ?_)
  · obtain ⟨a, b, ns, ms, rfl, _⟩ := h
    rfl
  · obtain ⟨a, b, ns, ms, rfl, ha, hsa, hns, hb, hsb, hms, k⟩ := h
    have hr3 : Room 3 _ := hr.mono (by decide)
    refine ⟨_, pss_cons (ps_try (i := 2) (j := 3) GS hr kS bS rfl mS (tup_ev3 rfl T.mgL rfl T.mgF rfl T.mgB) (exm_3 _ _ _) rfl rfl rfl scSd.nd rfl rfl (Or.inl rfl) rfl (.inr rfl) (.inr rfl) (pa_cons (pv 0) (pa_cons (pv 1) pa_nil))
      (fun A' => pss_one (ps_ret (te := tSl (rSlL K) (tXFld K (tVar 3) "answer") tNoPart (tPart (tC (.int 1)))) (pe_slice (X := Cx.held (cxX P w K mg base NSd "sides" (defScope s_sides) f cdv A outer s H E) A') sl_list (pe_xfld (X := Cx.held (cxX P w K mg base NSd "sides" (defScope s_sides) f cdv A outer s H E) A') (pv 3) rfl) po_none (po_some pe_int)))))
      (pss_cons (ps_set (i := 4) scSd.nd rfl (Or.inl rfl) (pe_fld (pe_make Y.M Y.G hr3 rfl TY.mgY Y.b .nil pass_x (pa_cons (pe_fld (pv 2) rfl) pa_nil)) rfl))
      (pss_one (ps_ret (pe_op op_cat (pe_lst (pa_cons (pe_callB call_len_seq (by rfl) T.nolen PySem.boot_len (pa_cons (pv 4) pa_nil)) pa_nil)) (pv 4))))), ?_⟩
    have ej : PyWqauce.sides ns ms = QuireC.both (QhSeenNeutral.bytes ns) (QhSeenNeutral.bytes ms) fun _ B => QuireC.nats (B.sides.length :: B.sides.map Side.key) := rfl
    rw [ej] at k
    refine to_case (cb := cb) (t := QhSeenNeutral.bytes ns) (u := QhSeenNeutral.bytes ms) T eL eF eB (vls_cons (val_var rfl) (vls_cons (val_var rfl) vls_nil)) (by rw [tx_bytes hns]; exact ha) (by rw [len_bytes]; exact hsa) (by rw [tx_bytes hms]; exact hb) (by rw [len_bytes]; exact hsb) ?_ ?_
    · rintro Fs B v H' h0 h1 h2 ⟨x, dx, fl, vs, gl, ga, rfl, R⟩ s1
      rw [ok_both h0 h1 h2] at k
      have ok := read_ok h2
      obtain ⟨hn1, hn2⟩ := findings_n h1
      dsimp only
      refine to_setE ?_
      refine to_lying (cb := cb) (cy := cy) (gl := gl) ?_ R.gat R.rb ok hn2 fun H2 y dy so sp gn pt hY s2 => ?_
      · exact val_fld (val_var rfl) R.obj TB.clC TB.nGa (cf_gath _ _ _)
      · refine ⟨y, cy, dy, _, _, rfl, hY.obj, TY.cl, TY.nSo, yf_so _ _ _ _, ?_⟩
        have hso := hY.ly.so
        have hlen : (nv (sk B.flatten)).length ≤ 32 := by rw [len_nv, sk_len, ok.len]; omega
        refine ⟨_, rfl, so, _, rfl, .inl (SqL.of hso), by show 1 ≤ sizeLine; decide, fun p np => ⟨_, rfl, p, so, _, _, rfl, rfl, upd_same, by rw [upd_ne (ne_of_none hso np)]; exact hso, ?_, fun q nq => k _ q ?_⟩⟩
        · rw [List.length_singleton]
          exact Nat.le_trans (by omega : 1 + _ ≤ 33) (by decide)
        · rw [upd_same, len_nv, sk_len, sk_sides, sides_len]
          unfold QuireC.nats nv
          simp
    · intro zs C dx ea H' hz hx hA n
      obtain ⟨z, r, rfl⟩ := refu_cons hz
      refine to_answer1 hA n rfl hx fun H'' l h => k H'' l ?_
      rw [ans_both hz]
      exact h
end
end Desk
end
section
section
set_option Elab.async false
set_option linter.all false
set_option maxRecDepth 100000
set_option maxHeartbeats 2000000
namespace L2
open PySem PySem.Spec PyProof.Rows
open PySem.W (WData Codec OpenSpec Well WellAll ReadsW ReadsAllW)
mutual
/-- x stands for the datum d, lists and tuples all the way -/
inductive Dw (K : PySem.W.Frag) (H : Hp) : V → WData → Prop
  | non : Dw K H .non .none
  | bl (b : Bool) : Dw K H (.bl b) (.bool b)
  | int (i : Int) : Dw K H (.int i) (.int i)
  | str (x : Str) : Dw K H (.str x) (.str x)
  | byt (b : Array UInt8) : Dw K H (.byt b) (.bytes b.toList)
  | lst {a : Addr} {xs : List V} {ds : List WData} : SqL K H a xs → DwAll K H xs ds → Dw K H (.ref a) (.list ds)
  | tup {a : Addr} {xs : List V} {ds : List WData} : SqT K H a xs → DwAll K H xs ds → Dw K H (.ref a) (.tuple ds)
inductive DwAll (K : PySem.W.Frag) (H : Hp) : List V → List WData → Prop
  | nil : DwAll K H [] []
  | cons {v : V} {vs : List V} {d : WData} {ds : List WData} : Dw K H v d → DwAll K H vs ds → DwAll K H (v :: vs) (d :: ds)
end
theorem dw_ints {K : PySem.W.Frag} {H : Hp} : ∀ ns : List Int, DwAll K H (ns.map V.int) (ns.map WData.int)
  | [] => .nil
  | n :: r => .cons (.int n) (dw_ints r)
theorem ints_dw {K : PySem.W.Frag} {H : Hp} : ∀ (ns : List Int) (xs : List V), DwAll K H xs (ns.map WData.int) → xs = ns.map V.int
  | [], xs, h => by
    cases h
    rfl
  | n :: r, xs, h => by
    cases h with
    | cons h1 h2 =>
      cases h1
      rw [ints_dw r _ h2] <;> rfl
section
variable {P : Program} {w : World} {K : PySem.W.Frag} {H : Hp} {h : Heap} {R : PySem.W.WRecords} {cl : Str → Option Addr}
theorem sqL_at {a : Addr} {xs : List V} (hok : HOk P w H h) (KX : K.In h) (q : SqL K H a xs) : ∃ (its : List Value) (o : Obj) (n : Nat), Vals xs its ∧ h.get? a = some o ∧ o.cls = .type "list" ∧ o.data = .seq its.toArray n := by
  rcases q with q | ⟨o, its, n, e, hc, _, hd, _, hv⟩
  · obtain ⟨_, its, n, hv, e⟩ := (show ObjOk P w H h a (.lst xs) from q.ok hok)
    exact ⟨its, _, n, hv, e, rfl, rfl⟩
  · exact ⟨its.toList, o, n, hv, KX _ _ e, hc, by simp [hd]⟩
theorem sqT_at {a : Addr} {xs : List V} (hok : HOk P w H h) (KX : K.In h) (q : SqT K H a xs) : ∃ (its : List Value) (o : Obj) (n : Nat), Vals xs its ∧ h.get? a = some o ∧ o.cls = .type "tuple" ∧ o.data = .seq its.toArray n := by
  rcases q with q | ⟨o, its, n, e, hc, hd, _, hv⟩
  · obtain ⟨_, its, hv, o, e, hc, n, hd⟩ := (show ObjOk P w H h a (.tup xs) from q.ok hok)
    exact ⟨its, o, n, hv, e, hc, hd⟩
  · exact ⟨its.toList, o, n, hv, KX _ _ e, hc, by simp [hd]⟩
mutual
theorem Dw.reads (hok : HOk P w H h) (KX : K.In h) : ∀ (d : WData) (v : V) (u : Value), Dw K H v d → RelV v u → ∃ as, ReadsW R cl h u d as
  | .none, _, _, x, r => by
    cases x
    cases r
    exact ⟨_, ReadsW.none⟩
  | .bool b, _, _, x, r => by
    cases x
    cases r
    exact ⟨_, ReadsW.bool b⟩
  | .int i, _, _, x, r => by
    cases x
    obtain ⟨t, rfl⟩ := r
    exact ⟨_, ReadsW.int i t⟩
  | .str s, _, _, x, r => by
    cases x
    obtain ⟨t, rfl⟩ := r
    exact ⟨_, ReadsW.str s t⟩
  | .bytes b, _, _, x, r => by
    cases x
    obtain ⟨t, rfl⟩ := r
    exact ⟨_, ReadsW.bytes _ t⟩
  | .list ds, _, _, x, r => by
    cases x with
    | lst hs ha =>
      cases r
      obtain ⟨its, o, n, rv, ho, hc, hd⟩ := sqL_at hok KX hs
      obtain ⟨as, hr⟩ := Dw.readsAll hok KX ds _ its ha rv
      exact ⟨_, ReadsW.list ho hc hd hr⟩
  | .tuple ds, _, _, x, r => by
    cases x with
    | tup hs ha =>
      cases r
      obtain ⟨its, o, n, rv, ho, hc, hd⟩ := sqT_at hok KX hs
      obtain ⟨as, hr⟩ := Dw.readsAll hok KX ds _ its ha rv
      exact ⟨_, ReadsW.tuple ho hc hd hr⟩
  | .float _, _, _, x, _ => by cases x
  | .dict _, _, _, x, _ => by cases x
  | .bytearray _, _, _, x, _ => by cases x
  | .set _, _, _, x, _ => by cases x
  | .frozenset _, _, _, x, _ => by cases x
  | .obj _ _, _, _, x, _ => by cases x
theorem Dw.readsAll (hok : HOk P w H h) (KX : K.In h) : ∀ (ds : List WData) (vs : List V) (us : List Value), DwAll K H vs ds → Vals vs us → ∃ as, ReadsAllW R cl h us ds as
  | [], _, _, x, r => by
    cases x
    cases r
    exact ⟨_, ReadsAllW.nil⟩
  | d :: ds, _, _, x, r => by
    cases x with
    | cons h1 h2 =>
      cases r with
      | cons r1 r2 =>
        obtain ⟨as, q1⟩ := Dw.reads hok KX d _ _ h1 r1
        obtain ⟨bs, q2⟩ := Dw.readsAll hok KX ds _ _ h2 r2
        exact ⟨_, ReadsAllW.cons q1 q2⟩
end
end
mutual
/-- data that a codec tells -/
def plW : WData → Bool
  | .none => true
  | .bool _ => true
  | .int _ => true
  | .str _ => true
  | .bytes _ => true
  | .list xs => plWs xs
  | .tuple xs => plWs xs
  | _ => false
def plWs : List WData → Bool
  | [] => true
  | x :: r => plW x && plWs r
end
theorem plWs_map {α : Type} {f : α → WData} (h : ∀ a, plW (f a) = true) : ∀ l : List α, plWs (l.map f) = true
  | [] => rfl
  | x :: r => by
    show (plW (f x) && plWs (r.map f)) = true
    rw [h x, plWs_map h r] <;> rfl
theorem pl_enc : ∀ (c : Codec) (a : c.denote), plW (c.enc a) = true
  | .unit, _ => rfl
  | .bool, _ => rfl
  | .int _ _, _ => rfl
  | .nat _ _, _ => rfl
  | .u8, _ => rfl
  | .bytes _ _, _ => rfl
  | .text _ _ _ _, _ => rfl
  | .list _ _ c, a => plWs_map (fun x => pl_enc c x) a
  | .pair c d, a => by
    show (plW (c.enc a.1) && (plW (d.enc a.2) && true)) = true
    rw [pl_enc c a.1, pl_enc d a.2] <;> rfl
  | .triple c d e, a => by
    show (plW (c.enc a.1) && (plW (d.enc a.2.1) && (plW (e.enc a.2.2) && true))) = true
    rw [pl_enc c a.1, pl_enc d a.2.1, pl_enc e a.2.2] <;> rfl
  | .option c, none => rfl
  | .option c, some x => pl_enc c x
theorem pl_encAll : ∀ (cs : List Codec) (a : Codec.denoteAll cs), plWs (Codec.encAll cs a) = true
  | [], _ => rfl
  | c :: cs, a => by
    show (plW (c.enc a.1) && plWs (Codec.encAll cs a.2)) = true
    rw [pl_enc c a.1, pl_encAll cs a.2] <;> rfl
theorem weight_mem : ∀ {xs : List WData} {d : WData}, d ∈ xs → d.weight ≤ WData.weightAll xs
  | [], d, h => absurd h (by simp)
  | x :: r, d, h => by
    show d.weight ≤ x.weight + 1 + WData.weightAll r
    rcases List.mem_cons.mp h with e | m
    · rw [e]
      omega
    · have z := weight_mem m
      omega
def toV : Value → V
  | .none => .non
  | .bool b => .bl b
  | .int i _ => .int i
  | .str x _ => .str x
  | .bytes b _ => .byt b
  | .ref a => .ref a
  | _ => .non
/-- a value of the arguments, its objects among A -/
def OkU (A : List Addr) : Value → Prop
  | .none => True
  | .bool _ => True
  | .int _ _ => True
  | .str _ _ => True
  | .bytes _ _ => True
  | .ref a => a ∈ A
  | _ => False
theorem OkU.mono {A B : List Addr} (h : ∀ a ∈ A, a ∈ B) : ∀ {u : Value}, OkU A u → OkU B u := fun {u} x => by
  cases u with
  | ref a => exact h a x
  | none => trivial
  | bool b => trivial
  | int i t => trivial
  | str s t => trivial
  | bytes b t => trivial
  | _ => exact False.elim x
theorem relV_toV {A : List Addr} {u : Value} (x : OkU A u) : RelV (toV u) u := by
  cases u with
  | ref a => rfl
  | none => rfl
  | bool b => rfl
  | int i t => exact ⟨t, rfl⟩
  | str s t => exact ⟨t, rfl⟩
  | bytes b t => exact ⟨t, rfl⟩
  | _ => exact False.elim x
theorem vals_toV {A : List Addr} : ∀ {vs : List Value}, (∀ u ∈ vs, OkU A u) → Vals (vs.map toV) vs
  | [], _ => .nil
  | u :: r, h => .cons (relV_toV (h u (List.mem_cons_self ..))) (vals_toV fun x hx => h x (List.mem_cons_of_mem _ hx))
/-- an object of the arguments -/
def ArgOb (h : Heap) (A : List Addr) (a : Addr) : Prop := ∃ vs : List Value, vs.length ≤ sizeLine ∧ (∀ u ∈ vs, OkU A u) ∧
  (h.get? a = some { cls := .type "list", data := .seq vs.toArray } ∨ h.get? a = some { cls := .type "tuple", data := .seq vs.toArray })
theorem ArgOb.mono {h : Heap} {A B : List Addr} {a : Addr} (k : ∀ a ∈ A, a ∈ B) (x : ArgOb h A a) : ArgOb h B a := by
  obtain ⟨vs, h1, h2, h3⟩ := x
  exact ⟨vs, h1, fun u hu => (h2 u hu).mono k, h3⟩
theorem wellAll_len {P : Params} {h : Heap} : ∀ {vs : List Value} {ds : List WData}, WellAll P h vs ds → vs.length = ds.length
  | _, _, .nil => rfl
  | _, _, .cons _ b => by
    show _ + 1 = _ + 1
    rw [wellAll_len b]
theorem well_list {P : Params} {h : Heap} {v : Value} {ds : List WData} (x : Well P h v (.list ds)) : ∃ (a : Addr) (vs : List Value), v = .ref a ∧ h.get? a = some { cls := .type "list", data := .seq vs.toArray } ∧ WellAll P h vs ds := by
  cases x with
  | list ho hall => exact ⟨_, _, rfl, ho, hall⟩
theorem well_tuple {P : Params} {h : Heap} {v : Value} {ds : List WData} (x : Well P h v (.tuple ds)) : ∃ (a : Addr) (vs : List Value), v = .ref a ∧ h.get? a = some { cls := .type "tuple", data := .seq vs.toArray } ∧ WellAll P h vs ds := by
  cases x with
  | tuple ho hall => exact ⟨_, _, rfl, ho, hall⟩
theorem well_cons {P : Params} {h : Heap} {us : List Value} {d : WData} {ds : List WData} (x : WellAll P h us (d :: ds)) : ∃ (v : Value) (vs : List Value), us = v :: vs ∧ Well P h v d ∧ WellAll P h vs ds := by
  cases x with
  | cons a b => exact ⟨_, _, rfl, a, b⟩
theorem line_of {n : Nat} (h : n ≤ 1048576) : n ≤ sizeLine := Nat.le_trans h (by decide)
section
variable {P : Params} {h : Heap}
mutual
theorem area_one : ∀ (d : WData) (v : Value), Well P h v d → plW d = true → d.weight ≤ 1048576 → ∃ A : List Addr, OkU A v ∧ ∀ a ∈ A, ArgOb h A a
  | .none, _, x, _, _ => by
    cases x
    exact ⟨[], trivial, fun a m => absurd m (by simp)⟩
  | .bool b, _, x, _, _ => by
    cases x
    exact ⟨[], trivial, fun a m => absurd m (by simp)⟩
  | .int i, _, x, _, _ => by
    cases x
    exact ⟨[], trivial, fun a m => absurd m (by simp)⟩
  | .str s, _, x, _, _ => by
    cases x
    exact ⟨[], trivial, fun a m => absurd m (by simp)⟩
  | .bytes b, _, x, _, _ => by
    cases x
    exact ⟨[], trivial, fun a m => absurd m (by simp)⟩
  | .list ds, _, x, p, z => by
    obtain ⟨a, vs, rfl, ho, hall⟩ := well_list x
    have z2 : WData.weightAll ds ≤ 1048576 := z
    obtain ⟨A, h1, h2⟩ := area_all ds _ hall p fun d hd => Nat.le_trans (weight_mem hd) z2
    have k : ∀ b ∈ A, b ∈ a :: A := fun b hb => List.mem_cons_of_mem _ hb
    refine ⟨a :: A, List.mem_cons_self .., fun b hb => ?_⟩
    rcases List.mem_cons.mp hb with e | m
    · rw [e]
      exact ⟨vs, line_of (by rw [wellAll_len hall]; exact Nat.le_trans (PySem.W.length_le_weightAllW ds) z2), fun u hu => (h1 u hu).mono k, .inl ho⟩
    · exact (h2 b m).mono k
  | .tuple ds, _, x, p, z => by
    obtain ⟨a, vs, rfl, ho, hall⟩ := well_tuple x
    have z2 : WData.weightAll ds ≤ 1048576 := z
    obtain ⟨A, h1, h2⟩ := area_all ds _ hall p fun d hd => Nat.le_trans (weight_mem hd) z2
    have k : ∀ b ∈ A, b ∈ a :: A := fun b hb => List.mem_cons_of_mem _ hb
    refine ⟨a :: A, List.mem_cons_self .., fun b hb => ?_⟩
    rcases List.mem_cons.mp hb with e | m
    · rw [e]
      exact ⟨vs, line_of (by rw [wellAll_len hall]; exact Nat.le_trans (PySem.W.length_le_weightAllW ds) z2), fun u hu => (h1 u hu).mono k, .inr ho⟩
    · exact (h2 b m).mono k
  | .float _, _, _, p, _ => Bool.noConfusion (show false = true from p)
  | .dict _, _, _, p, _ => Bool.noConfusion (show false = true from p)
  | .bytearray _, _, _, p, _ => Bool.noConfusion (show false = true from p)
  | .set _, _, _, p, _ => Bool.noConfusion (show false = true from p)
  | .frozenset _, _, _, p, _ => Bool.noConfusion (show false = true from p)
  | .obj _ _, _, _, p, _ => Bool.noConfusion (show false = true from p)
theorem area_all : ∀ (ds : List WData) (vs : List Value), WellAll P h vs ds → plWs ds = true → (∀ d ∈ ds, d.weight ≤ 1048576) → ∃ A : List Addr, (∀ u ∈ vs, OkU A u) ∧ ∀ a ∈ A, ArgOb h A a
  | [], _, x, _, _ => by
    cases x
    exact ⟨[], fun u m => absurd m (by simp), fun a m => absurd m (by simp)⟩
  | d :: ds, _, x, p, z => by
    obtain ⟨v, vs, rfl, x1, x2⟩ := well_cons x
    have q : plW d = true ∧ plWs ds = true := Bool.and_eq_true_iff.mp p
    obtain ⟨A, a1, a2⟩ := area_one d v x1 q.1 (z d (List.mem_cons_self ..))
    obtain ⟨B, b1, b2⟩ := area_all ds vs x2 q.2 fun e he => z e (List.mem_cons_of_mem _ he)
    have kA : ∀ b ∈ A, b ∈ A ++ B := fun b hb => List.mem_append.mpr (.inl hb)
    have kB : ∀ b ∈ B, b ∈ A ++ B := fun b hb => List.mem_append.mpr (.inr hb)
    refine ⟨A ++ B, fun u hu => ?_, fun b hb => ?_⟩
    · rcases List.mem_cons.mp hu with e | m
      · rw [e]
        exact a1.mono kA
      · exact (b1 u m).mono kB
    · rcases List.mem_append.mp hb with m | m
      · exact (a2 b m).mono kA
      · exact (b2 b m).mono kB
end
end
/-- what is tracked of an argument's object -/
def hoOf (o : Obj) : Option HO := match o.data with
  | .seq vs _ => if (o.cls == Value.type "list") = true then some (.frz o (.lst (vs.toList.map toV))) else some (.frz o (.tup (vs.toList.map toV)))
  | _ => none
def argH (K : PySem.W.Frag) (h : Heap) (A : List Addr) : Hp := fun b => if b ∈ A then (if (K.lookup b).isNone = true then (h.get? b).bind hoOf else none) else none
/-- nothing is tracked but what is known to the object -/
def OnlyF (H : Hp) : Prop := ∀ b, H b = none ∨ ∃ o u, H b = some (.frz o u)
theorem hoOf_lst (vs : List Value) : hoOf { cls := .type "list", data := .seq vs.toArray } = some (.frz { cls := .type "list", data := .seq vs.toArray } (.lst (vs.map toV))) := by
  show (if (Value.type "list" == Value.type "list") = true then some (HO.frz { cls := .type "list", data := .seq vs.toArray } (.lst (vs.toArray.toList.map toV))) else some (HO.frz { cls := .type "list", data := .seq vs.toArray } (.tup (vs.toArray.toList.map toV)))) = _
  rw [if_pos (beq_self_eq_true _)]
theorem hoOf_tup (vs : List Value) : hoOf { cls := .type "tuple", data := .seq vs.toArray } = some (.frz { cls := .type "tuple", data := .seq vs.toArray } (.tup (vs.map toV))) := by
  show (if (Value.type "tuple" == Value.type "list") = true then some (HO.frz { cls := .type "tuple", data := .seq vs.toArray } (.lst (vs.toArray.toList.map toV))) else some (HO.frz { cls := .type "tuple", data := .seq vs.toArray } (.tup (vs.toArray.toList.map toV)))) = _
  rw [if_neg (by decide)]
section
variable {P : Program} {w : World} {K : PySem.W.Frag} {h : Heap} {A : List Addr}
theorem argH_at {b : Addr} {o : Obj} (hb : b ∈ A) (hk : K.lookup b = none) (e : h.get? b = some o) : argH K h A b = hoOf o := by
  unfold argH
  rw [if_pos hb, hk, if_pos (show (none : Option Obj).isNone = true from rfl), e] <;> rfl
theorem of_argH {b : Addr} {u : HO} (q : argH K h A b = some u) : b ∈ A ∧ K.lookup b = none := by
  unfold argH at q
  by_cases hb : b ∈ A
  · rw [if_pos hb] at q
    cases hk : K.lookup b with
    | none => exact ⟨hb, rfl⟩
    | some o =>
      rw [hk, if_neg (by simp)] at q
      cases q
  · rw [if_neg hb] at q
    cases q
/-- what stands tracked -/
theorem argH_is (ar : ∀ a ∈ A, ArgOb h A a) {b : Addr} {u : HO} (q : argH K h A b = some u) : K.lookup b = none ∧ ∃ vs : List Value, vs.length ≤ sizeLine ∧ (∀ u ∈ vs, OkU A u) ∧
    ((h.get? b = some { cls := .type "list", data := .seq vs.toArray } ∧ u = .frz { cls := .type "list", data := .seq vs.toArray } (.lst (vs.map toV))) ∨
     (h.get? b = some { cls := .type "tuple", data := .seq vs.toArray } ∧ u = .frz { cls := .type "tuple", data := .seq vs.toArray } (.tup (vs.map toV)))) := by
  obtain ⟨hb, hk⟩ := of_argH q
  obtain ⟨vs, h1, h2, h3⟩ := ar b hb
  refine ⟨hk, vs, h1, h2, ?_⟩
  rcases h3 with e | e
  · rw [argH_at hb hk e, hoOf_lst] at q
    exact .inl ⟨e, (Option.some.inj q).symm⟩
  · rw [argH_at hb hk e, hoOf_tup] at q
    exact .inr ⟨e, (Option.some.inj q).symm⟩
theorem argH_only (ar : ∀ a ∈ A, ArgOb h A a) : OnlyF (argH K h A) := fun b => by
  cases q : argH K h A b with
  | none => exact .inl rfl
  | some u =>
    obtain ⟨_, vs, _, _, ⟨_, e⟩ | ⟨_, e⟩⟩ := argH_is ar q
    · exact .inr ⟨_, _, by rw [e]⟩
    · exact .inr ⟨_, _, by rw [e]⟩
theorem argH_ok (ar : ∀ a ∈ A, ArgOb h A a) : HOk P w (argH K h A) h := fun b u q => by
  obtain ⟨_, vs, h1, h2, ⟨e, rfl⟩ | ⟨e, rfl⟩⟩ := argH_is ar q
  · exact ⟨e, by rw [List.length_map]; exact h1, vs, _, vals_toV h2, e⟩
  · exact ⟨e, by rw [List.length_map]; exact h1, vs, vals_toV h2, _, e, rfl, _, rfl⟩
theorem seq_inj {c c' : Value} {vs us : List Value} (e : (some { cls := c, data := .seq vs.toArray } : Option Obj) = some { cls := c', data := .seq us.toArray }) : c = c' ∧ vs = us := by
  have e1 := Option.some.inj e
  have e2 : c = c' := congrArg Obj.cls e1
  have e3 : Data.seq vs.toArray = Data.seq us.toArray := congrArg Obj.data e1
  injection e3 with e4
  refine ⟨e2, ?_⟩
  have e5 := congrArg Array.toList e4
  simpa using e5
/-- a list argument -/
theorem argL (KX : K.In h) (ar : ∀ a ∈ A, ArgOb h A a) {a : Addr} {vs : List Value} (ha : a ∈ A) (e : h.get? a = some { cls := .type "list", data := .seq vs.toArray }) : (∀ u ∈ vs, OkU A u) ∧ SqL K (argH K h A) a (vs.map toV) := by
  obtain ⟨us, h1, h2, h3⟩ := ar a ha
  have hu : us = vs := by
    rcases h3 with q | q
    · rw [e] at q
      exact (seq_inj q).2.symm
    · rw [e] at q
      exact absurd (Value.type.inj (seq_inj q).1) (by decide)
  subst hu
  refine ⟨h2, ?_⟩
  cases hk : K.lookup a with
  | none => exact .inl (.inr ⟨_, by rw [argH_at ha hk e, hoOf_lst]⟩)
  | some o =>
    have e2 := KX a o hk
    rw [e] at e2
    obtain rfl := Option.some.inj e2
    exact .inr ⟨_, us.toArray, _, hk, rfl, rfl, rfl, by rw [List.size_toArray]; exact h1, by simpa using vals_toV h2⟩
theorem argT (KX : K.In h) (ar : ∀ a ∈ A, ArgOb h A a) {a : Addr} {vs : List Value} (ha : a ∈ A) (e : h.get? a = some { cls := .type "tuple", data := .seq vs.toArray }) : (∀ u ∈ vs, OkU A u) ∧ SqT K (argH K h A) a (vs.map toV) := by
  obtain ⟨us, h1, h2, h3⟩ := ar a ha
  have hu : us = vs := by
    rcases h3 with q | q
    · rw [e] at q
      exact absurd (Value.type.inj (seq_inj q).1) (by decide)
    · rw [e] at q
      exact (seq_inj q).2.symm
  subst hu
  refine ⟨h2, ?_⟩
  cases hk : K.lookup a with
  | none => exact .inl (.inr ⟨_, by rw [argH_at ha hk e, hoOf_tup]⟩)
  | some o =>
    have e2 := KX a o hk
    rw [e] at e2
    obtain rfl := Option.some.inj e2
    exact .inr ⟨_, us.toArray, _, hk, rfl, rfl, by rw [List.size_toArray]; exact h1, by simpa using vals_toV h2⟩
mutual
theorem dw_one {Pm : Params} (KX : K.In h) (ar : ∀ a ∈ A, ArgOb h A a) : ∀ (d : WData) (v : Value), Well Pm h v d → plW d = true → OkU A v → Dw K (argH K h A) (toV v) d
  | .none, _, x, _, _ => by
    cases x
    exact .non
  | .bool b, _, x, _, _ => by
    cases x
    exact .bl b
  | .int i, _, x, _, _ => by
    cases x
    exact .int i
  | .str s, _, x, _, _ => by
    cases x
    exact .str s
  | .bytes b, _, x, _, _ => by
    cases x
    have z := Dw.byt (K := K) (H := argH K h A) b.toArray
    exact z
  | .list ds, _, x, p, hu => by
    obtain ⟨a, vs, rfl, ho, hall⟩ := well_list x
    obtain ⟨h2, hs⟩ := argL KX ar hu ho
    exact .lst hs (dw_all KX ar ds _ hall p h2)
  | .tuple ds, _, x, p, hu => by
    obtain ⟨a, vs, rfl, ho, hall⟩ := well_tuple x
    obtain ⟨h2, hs⟩ := argT KX ar hu ho
    exact .tup hs (dw_all KX ar ds _ hall p h2)
  | .float _, _, _, p, _ => Bool.noConfusion (show false = true from p)
  | .dict _, _, _, p, _ => Bool.noConfusion (show false = true from p)
  | .bytearray _, _, _, p, _ => Bool.noConfusion (show false = true from p)
  | .set _, _, _, p, _ => Bool.noConfusion (show false = true from p)
  | .frozenset _, _, _, p, _ => Bool.noConfusion (show false = true from p)
  | .obj _ _, _, _, p, _ => Bool.noConfusion (show false = true from p)
theorem dw_all {Pm : Params} (KX : K.In h) (ar : ∀ a ∈ A, ArgOb h A a) : ∀ (ds : List WData) (vs : List Value), WellAll Pm h vs ds → plWs ds = true → (∀ u ∈ vs, OkU A u) → DwAll K (argH K h A) (vs.map toV) ds
  | [], _, x, _, _ => by
    cases x
    exact .nil
  | d :: ds, _, x, p, hu => by
    obtain ⟨v, vs, rfl, x1, x2⟩ := well_cons x
    have q : plW d = true ∧ plWs ds = true := Bool.and_eq_true_iff.mp p
    exact .cons (dw_one KX ar d v x1 q.1 (hu _ (List.mem_cons_self ..))) (dw_all KX ar ds vs x2 q.2 fun u m => hu u (List.mem_cons_of_mem _ m))
end
end
theorem spec_call {P : Program} {w : World} {K : PySem.W.Frag} {mg mb : Str → Option Value} {CX : CXT} {k : Nat} {fa : Addr} {fd : FuncData} {ps : List Str} {sp : Sp} {s₁ : Shared} {vals : List Value} {ds : List WData} {R : PySem.W.WRecords} {cl : Str → Option Addr} {d0 : WData}
    (KX : K.In s₁.heap) (hns : s₁.heap.Ns mainGlobals mg) (hb : s₁.heap.Ns builtinsNs mb) (hbb : ∀ x : Str, x ≠ "__name__" → mb x = bootBuiltins x) (hlim : s₁.heap.NoLimit) (hg : s₁.gens = #[])
    (hwl : WellAll w.params s₁.heap vals ds) (hpl : plWs ds = true) (hwt : ∀ d ∈ ds, d.weight ≤ 1048576) (hr : Room k callerA)
    (F : ∀ base : Heap, K.In base → base.Ns mainGlobals mg → FnOk P w K mg base CX k fa fd ps sp) (hbind : ∀ (s : Shared) (us : List Value), us.length = ps.length → BindsTo s fd ⟨us, []⟩ (ps.zip us)) (hlen : ds.length = ps.length)
    (hsp : ∀ (H : Hp) (xs : List V), OnlyF H → DwAll K H xs ds → sp xs H (fun v H' => Dw K H' v d0) fun _ _ _ => False)
    (hCX : ∀ H e s', CX [] H s₁ (fun _ _ _ => False) e s' → False) :
    codeAny (model P w) callerA (.call (.ref fa) ⟨vals, []⟩) (fun r s' => ∃ u as, r = .ok (.ret u) ∧ ReadsW R cl s'.heap u d0 as ∧ OldK s₁.heap s'.heap ∧ s'.os = s₁.os ∧ AllBare s'.gens) s₁ := by
  obtain ⟨A, ho, ar⟩ := area_all ds vals hwl hpl hwt
  have hO : OnlyF (argH K s₁.heap A) := argH_only ar
  have hok : HOk P w (argH K s₁.heap A) s₁.heap := argH_ok ar
  have hS := dw_all KX ar ds vals hwl hpl ho
  have hV := vals_toV ho
  have hK : ∀ b u, argH K s₁.heap A b = some u → K.lookup b = none := fun b u q => (argH_is ar q).1
  have noA : ∀ {b : Addr} {o : Obj} {es : Array DictEntry} {ep : Nat}, s₁.heap.get? b = some o → o.data = .dict es ep → argH K s₁.heap A b = none := fun {b o es ep} e d => by
    cases q : argH K s₁.heap A b with
    | none => rfl
    | some u =>
      obtain ⟨_, vs, _, _, ⟨e2, _⟩ | ⟨e2, _⟩⟩ := argH_is ar q
      · rw [e2] at e
        cases e
        have d' : Data.seq vs.toArray _ = Data.dict es ep := d
        cases d'
      · rw [e2] at e
        cases e
        have d' : Data.seq vs.toArray _ = Data.dict es ep := d
        cases d'
  generalize argH K s₁.heap A = H at hO hok hS hK noA
  have base_of : ∀ {b : Addr} {o : Obj}, s₁.heap.get? b = some o → H b = none → (hidT s₁.heap H).get? b = some o := fun e n => hidT_get e n
  have nsK : ∀ {b : Addr} {m : Str → Option Value}, s₁.heap.Ns b m → (hidT s₁.heap H).Ns b m := fun {b m} ⟨o, es, ep, e, d, r⟩ => ⟨o, es, ep, base_of e (noA e d), d, r⟩
  have nK : ∀ b o, K.lookup b = some o → H b = none := fun b o e => by
    cases q : H b with
    | none => rfl
    | some u =>
      rw [hK b u q] at e
      cases e
  have hKb : K.In (hidT s₁.heap H) := fun b o e => base_of (KX b o e) (nK b o e)
  have hM : Mod K mg (hidT s₁.heap H) := ⟨hKb, nsK hns, ⟨mb, nsK hb, hbb⟩, let ⟨mc, h1, h2⟩ := hlim; ⟨mc, nsK h1, h2⟩⟩
  have e0 : Env0 P w K mg (hidT s₁.heap H) callerA [] s₁ H := ⟨rfl, hM, fun b o e => of_hidT e, Nat.le_of_eq (hidT_size _ _), trivial, fun b hb => absurd (show b ∈ ([] : List Addr) from hb) (by simp), hok, .of_eq hg⟩
  have hl : vals.length = ps.length := by rw [wellAll_len hwl]; exact hlen
  refine codeAny_mono ((F _ hKb (nsK hns)).run callerA [] s₁ H ⟨vals, []⟩ vals (vals.map toV) _ _ hr e0 (hbind s₁ vals hl) hV (hsp H _ hO hS)) fun r s' x => ?_
  cases r with
  | error e => exact (hCX H e s' x).elim
  | ok fl =>
    cases fl with
    | next => exact False.elim x
    | brk => exact False.elim x
    | cont => exact False.elim x
    | ret u =>
      obtain ⟨v, H', os, bare, un, hok', r', q⟩ := x
      have kept : ∀ b o, s₁.heap.get? b = some o → s'.heap.get? b = some o := fun b o e => by
        cases q2 : H b with
        | none => exact un.keep b o e q2 (by intro z; exact absurd (show b ∈ ([] : List Addr) from z) (by simp)) (by simp)
        | some u2 =>
          rcases hO b with z | ⟨ob, u3, z⟩
          · rw [q2] at z
            cases z
          · have z2 := un.frzs b ob _ z
            obtain ⟨e1, _⟩ := hok b _ z
            obtain ⟨e2, _⟩ := hok' b _ z2
            rw [e] at e1
            cases e1
            exact e2
      have KX' : K.In s'.heap := fun b o e => kept b o (KX b o e)
      obtain ⟨as, hrd⟩ := Dw.reads (R := R) (cl := cl) hok' KX' d0 v u q r'
      exact ⟨u, as, rfl, hrd, OldK.of_keep kept, os, bare⟩
theorem layable_weight {ds : List WData} (h : WData.layableAll ds = true) : ∀ d ∈ ds, d.weight ≤ 1048576 := fun d hd =>
  (PySem.W.layableW_iff.mp (List.all_eq_true.mp h d hd)).2.2
theorem encAll_len : ∀ (cs : List Codec) (a : Codec.denoteAll cs), (Codec.encAll cs a).length = cs.length
  | [], _ => rfl
  | c :: cs, a => by
    show (Codec.encAll cs a.2).length + 1 = cs.length + 1
    rw [encAll_len cs a.2]
/-- the goal that k_headS leaves (case hc), from the promise of the row's def: whatever the arguments that the codecs let and the row asks for, the def gives what stands for enc (f ..) -/
theorem walk_spec {r : OpenSpec} {k : Nat} {q : Program} {loose : List Str} {XP : (Str → Option Value) → Heap → Prop} {YP : World → Heap → Prop} {d : DefRec} {K : Params → PySem.W.Frag} {CX : World → CXT} {ps : List Str} {sp : World → Sp}
    (hwell : r.wellSaid = true) (hdf : d.params.defaults = []) (hlen : r.args.length = ps.length) (hr : Room k callerA)
    (hY : ∀ (w : World) (h : Heap), YP w h → (K w.params).In h)
    (F : ∀ (w : World) (mg : Str → Option Value) (fa : Addr) (h : Heap), YP w h → (K w.params).In h → h.Ns mainGlobals mg → mg d.name = some (.ref fa) →
      ∃ fd : FuncData, (∀ (s : Shared) (us : List Value), us.length = ps.length → BindsTo s fd ⟨us, []⟩ (ps.zip us)) ∧
        ∀ base : Heap, (K w.params).In base → base.Ns mainGlobals mg → FnOk r.prog w (K w.params) mg base (CX w) k fa fd ps (sp w))
    (hsp : ∀ (w : World) (H : Hp) (xs : List V) (a : Codec.denoteAll r.args), OnlyF H → Codec.withinAll r.args a = true → Codec.app r.args r.asked a = true → DwAll (K w.params) H xs (Codec.encAll r.args a) →
      sp w xs H (fun v H' => Dw (K w.params) H' v (r.ret.enc (Codec.app r.args r.f a))) fun _ _ _ => False)
    (hCX : ∀ (w : World) (H : Hp) (s : Shared) (e : Value) (s' : Shared), CX w [] H s (fun _ _ _ => False) e s' → False) :
    PySem.W.WalkOS q loose XP YP r d [] (fun f vs => PySem.call f vs) := by
  intro w s_0 s₁ mg mb G Y fa o pm cd doc dV kV ho hd hcd hD hmg hg args vals as hpre hlay hrd hwl hlo
  obtain ⟨a, e1, e2⟩ := PySem.W.os_pre_some hpre
  obtain ⟨e3, hwi⟩ := Codec.encAll_of_decAll r.args args a e1
  subst e3
  have KX := hY w _ Y
  obtain ⟨fd, hb, hF⟩ := F w mg fa _ Y KX G.T.g hmg
  refine PySem.W.enter_call (codeAny_mono (spec_call (R := []) (cl := classAt s_0.heap) (d0 := r.ret.enc (Codec.app r.args r.f a)) KX G.T.g G.T.b G.T.builtins G.T.nolimit hg hwl (pl_encAll _ _) (layable_weight hlay) hr hF hb (by rw [encAll_len]; exact hlen)
    (fun H xs hO hS => hsp w H xs a hO hwi e2 hS) fun H e s' => hCX w H s₁ e s') fun r' s' hq => ?_)
  obtain ⟨u, as', rfl, h1, h2, h3, h4⟩ := hq
  exact ⟨.inl ⟨u, _, as', rfl, fun _ => rfl, h1, (OpenSpec.post_iff hwell hwi _ _).mpr rfl, fun z => Bool.noConfusion (show false = true from z)⟩, h2, h3, h4⟩
/-- the same where the promise hangs on the written part alone -/
theorem walk_specK {r : OpenSpec} {k : Nat} {q : Program} {loose : List Str} {XP : (Str → Option Value) → Heap → Prop} {YP : World → Heap → Prop} {d : DefRec} {K : Params → PySem.W.Frag} {CX : CXT} {ps : List Str} {sp : PySem.W.Frag → Sp}
    (hwell : r.wellSaid = true) (hdf : d.params.defaults = []) (hlen : r.args.length = ps.length) (hr : Room k callerA)
    (hY : ∀ (w : World) (h : Heap), YP w h → (K w.params).In h)
    (F : ∀ (w : World) (mg : Str → Option Value) (fa : Addr) (h : Heap), YP w h → (K w.params).In h → h.Ns mainGlobals mg → mg d.name = some (.ref fa) →
      ∃ fd : FuncData, (∀ (s : Shared) (us : List Value), us.length = ps.length → BindsTo s fd ⟨us, []⟩ (ps.zip us)) ∧
        ∀ base : Heap, (K w.params).In base → base.Ns mainGlobals mg → FnOk r.prog w (K w.params) mg base CX k fa fd ps (sp (K w.params)))
    (hsp : ∀ (K : PySem.W.Frag) (H : Hp) (xs : List V) (a : Codec.denoteAll r.args), OnlyF H → Codec.withinAll r.args a = true → Codec.app r.args r.asked a = true → DwAll K H xs (Codec.encAll r.args a) →
      sp K xs H (fun v H' => Dw K H' v (r.ret.enc (Codec.app r.args r.f a))) fun _ _ _ => False)
    (hCX : ∀ (H : Hp) (s : Shared) (e : Value) (s' : Shared), CX [] H s (fun _ _ _ => False) e s' → False) :
    PySem.W.WalkOS q loose XP YP r d [] (fun f vs => PySem.call f vs) :=
  walk_spec (K := K) (CX := fun _ => CX) (sp := fun w => sp (K w.params)) hwell hdf hlen hr hY F (fun w H xs a h1 h2 h3 h4 => hsp (K w.params) H xs a h1 h2 h3 h4) fun _ H s e s' => hCX H s e s'
end L2
end
end
section
set_option Elab.async false
set_option linter.all false
namespace L2
open PySem PySem.Spec PyProof.Rows
open PySem.W (WData Codec OpenSpec Well WellAll ReadsW ReadsAllW)
/-- walk_specK, with a way out for exceptions that hangs on the world -/
theorem walk_specX {r : OpenSpec} {k : Nat} {q : Program} {loose : List Str} {XP : (Str → Option Value) → Heap → Prop} {YP : World → Heap → Prop} {d : DefRec} {K : Params → PySem.W.Frag} {CX : World → CXT} {ps : List Str} {sp : PySem.W.Frag → Sp}
    (hwell : r.wellSaid = true) (hdf : d.params.defaults = []) (hlen : r.args.length = ps.length) (hr : Room k callerA) (hY : ∀ (w : World) (h : Heap), YP w h → (K w.params).In h)
    (F : ∀ (w : World) (mg : Str → Option Value) (fa : Addr) (h : Heap), YP w h → (K w.params).In h → h.Ns mainGlobals mg → mg d.name = some (.ref fa) →
      ∃ fd : FuncData, (∀ (s : Shared) (us : List Value), us.length = ps.length → BindsTo s fd ⟨us, []⟩ (ps.zip us)) ∧ ∀ base : Heap, (K w.params).In base → base.Ns mainGlobals mg → FnOk r.prog w (K w.params) mg base (CX w) k fa fd ps (sp (K w.params)))
    (hsp : ∀ (K : PySem.W.Frag) (H : Hp) (xs : List V) (a : Codec.denoteAll r.args), OnlyF H → Codec.withinAll r.args a = true → Codec.app r.args r.asked a = true → DwAll K H xs (Codec.encAll r.args a) →
      sp K xs H (fun v H' => Dw K H' v (r.ret.enc (Codec.app r.args r.f a))) fun _ _ _ => False)
    (hCX : ∀ (w : World) (H : Hp) (s : Shared) (e : Value) (s' : Shared), CX w [] H s (fun _ _ _ => False) e s' → False) : PySem.W.WalkOS q loose XP YP r d [] (fun f vs => PySem.call f vs) :=
  walk_spec (K := K) (CX := CX) (sp := fun w => sp (K w.params)) hwell hdf hlen hr hY F (fun w H xs a h1 h2 h3 h4 => hsp (K w.params) H xs a h1 h2 h3 h4) hCX
end L2
end
section
set_option Elab.async false
set_option linter.all false
set_option maxRecDepth 100000
namespace Desk
open PySem PySem.Spec PyProof.Rows L2
theorem nb_answer : typeLookup (.type "Exception") "answer" = pure none := by rw [typeLookup_type, builtinLookup_eq_fast]; kernel_rfl
set_option maxHeartbeats 0 in
theorem all_mk {P : Program} {w : World} {K : PySem.W.Frag} {h : Heap} {mg : Str → Option Value} {fa : Addr} (X : K.In h) (G : h.Ns mainGlobals mg) (hfa : mg "sides" = some (.ref fa))
        {tLINE_FEED : Tok}
    {tBLANK : Tok}
    {tBANG : Tok}
    {tOPENING : Tok}
    {tCLOSING : Tok}
    {tSLASH : Tok}
    {tZERO : Tok}
    {tNINE : Tok}
    {tLESS : Tok}
    {tEQUAL : Tok}
    {tGREATER : Tok}
    {tCARET : Tok}
    {tLETTER_A : Tok}
    {tLETTER_B : Tok}
    {tLETTER_H : Tok}
    {tLETTER_O : Tok}
    {tBAR : Tok}
    {tTILDE : Tok}
    {tMOST_BYTES : Tok}
    {tMOST_LEAVES : Tok}
    {tMOST_FINDINGS : Tok}
    {tMOST_DIGITS : Tok}
    {tTOO_LONG : Tok}
    {tBOOK_AT_FAULT : Tok}
    {tFINDINGS_AT_FAULT : Tok}
    {tEND : Tok}
    {cLy : Addr}
    {f1 : Addr} {od1 an1 : Option Addr} {sl1 : Array (Option Value)} {oc1 kV1 dc1 pm1 cd1 ct1 : Value}
    {f2 : Addr} {od2 an2 : Option Addr} {sl2 : Array (Option Value)} {oc2 kV2 dc2 pm2 cd2 ct2 : Value}
    {f3 : Addr} {od3 an3 : Option Addr} {sl3 : Array (Option Value)} {oc3 kV3 dc3 pm3 cd3 ct3 : Value}
    {cFi : Addr}
    {f4 : Addr} {od4 an4 : Option Addr} {sl4 : Array (Option Value)} {oc4 kV4 dc4 pm4 cd4 ct4 : Value}
    {cLL : Addr}
    {f5 : Addr} {od5 an5 : Option Addr} {sl5 : Array (Option Value)} {oc5 kV5 dc5 pm5 cd5 ct5 : Value}
    {cL : Addr}
    {NcL : Addr} {nmcL qcL : Str} {bscL : List Value} {sncL : List Str} {subcL : List Value} {abcL : Bool} {colcL : Option Bool} {ddcL : Option Addr} {k0cL k1cL k2cL k3cL k5cL : Option Value}
    {wocL : Value} {wdcL : Option Addr} {wlcL : Array (Option Value)} {wecL : Array DictEntry} {wncL : Nat}
    {f6 : Addr} {od6 an6 : Option Addr} {sl6 : Array (Option Value)} {oc6 kV6 dc6 pm6 cd6 ct6 : Value}
    {cF : Addr}
    {NcF : Addr} {nmcF qcF : Str} {bscF : List Value} {sncF : List Str} {subcF : List Value} {abcF : Bool} {colcF : Option Bool} {ddcF : Option Addr} {k0cF k1cF k2cF k3cF k5cF : Option Value}
    {wocF : Value} {wdcF : Option Addr} {wlcF : Array (Option Value)} {wecF : Array DictEntry} {wncF : Nat}
    {f7 : Addr} {od7 an7 : Option Addr} {sl7 : Array (Option Value)} {oc7 kV7 dc7 pm7 cd7 ct7 : Value}
    {cB : Addr}
    {NcB : Addr} {nmcB qcB : Str} {bscB : List Value} {sncB : List Str} {subcB : List Value} {abcB : Bool} {colcB : Option Bool} {ddcB : Option Addr} {k0cB k1cB k2cB k3cB k5cB : Option Value}
    {wocB : Value} {wdcB : Option Addr} {wlcB : Array (Option Value)} {wecB : Array DictEntry} {wncB : Nat}
    {f8 : Addr} {od8 an8 : Option Addr} {sl8 : Array (Option Value)} {oc8 kV8 dc8 pm8 cd8 ct8 : Value}
    {cS : Addr}
    {f9 : Addr} {od9 an9 : Option Addr} {sl9 : Array (Option Value)} {oc9 kV9 dc9 pm9 cd9 ct9 : Value}
    {cCa : Addr}
    {f10 : Addr} {od10 an10 : Option Addr} {sl10 : Array (Option Value)} {oc10 kV10 dc10 pm10 cd10 ct10 : Value}
    {cR : Addr}
    {f11 : Addr} {od11 an11 : Option Addr} {sl11 : Array (Option Value)} {oc11 kV11 dc11 pm11 cd11 ct11 : Value}
    {f12 : Addr} {od12 an12 : Option Addr} {sl12 : Array (Option Value)} {oc12 kV12 dc12 pm12 cd12 ct12 : Value}
    {f13 : Addr} {od13 an13 : Option Addr} {sl13 : Array (Option Value)} {oc13 kV13 dc13 pm13 cd13 ct13 : Value}
    {f14 : Addr} {od14 an14 : Option Addr} {sl14 : Array (Option Value)} {oc14 kV14 dc14 pm14 cd14 ct14 : Value}
    {f15 : Addr} {od15 an15 : Option Addr} {sl15 : Array (Option Value)} {oc15 kV15 dc15 pm15 cd15 ct15 : Value}
    {f16 : Addr} {od16 an16 : Option Addr} {sl16 : Array (Option Value)} {oc16 kV16 dc16 pm16 cd16 ct16 : Value}
    {f17 : Addr} {od17 an17 : Option Addr} {sl17 : Array (Option Value)} {oc17 kV17 dc17 pm17 cd17 ct17 : Value}
    {f18 : Addr} {od18 an18 : Option Addr} {sl18 : Array (Option Value)} {oc18 kV18 dc18 pm18 cd18 ct18 : Value}
    {f19 : Addr} {od19 an19 : Option Addr} {sl19 : Array (Option Value)} {oc19 kV19 dc19 pm19 cd19 ct19 : Value}
    {f20 : Addr} {od20 an20 : Option Addr} {sl20 : Array (Option Value)} {oc20 kV20 dc20 pm20 cd20 ct20 : Value}
    {f21 : Addr} {od21 an21 : Option Addr} {sl21 : Array (Option Value)} {oc21 kV21 dc21 pm21 cd21 ct21 : Value}
    {f22 : Addr} {od22 an22 : Option Addr} {sl22 : Array (Option Value)} {oc22 kV22 dc22 pm22 cd22 ct22 : Value}
    {f23 : Addr} {od23 an23 : Option Addr} {sl23 : Array (Option Value)} {oc23 kV23 dc23 pm23 cd23 ct23 : Value}
    {f24 : Addr} {od24 an24 : Option Addr} {sl24 : Array (Option Value)} {oc24 kV24 dc24 pm24 cd24 ct24 : Value}
    {f25 : Addr} {od25 an25 : Option Addr} {sl25 : Array (Option Value)} {oc25 kV25 dc25 pm25 cd25 ct25 : Value}
    {f26 : Addr} {od26 an26 : Option Addr} {sl26 : Array (Option Value)} {oc26 kV26 dc26 pm26 cd26 ct26 : Value}
    {f27 : Addr} {od27 an27 : Option Addr} {sl27 : Array (Option Value)} {oc27 kV27 dc27 pm27 cd27 ct27 : Value}
    {f28 : Addr} {od28 an28 : Option Addr} {sl28 : Array (Option Value)} {oc28 kV28 dc28 pm28 cd28 ct28 : Value}
    {f29 : Addr} {od29 an29 : Option Addr} {sl29 : Array (Option Value)} {oc29 kV29 dc29 pm29 cd29 ct29 : Value}
    {f30 : Addr} {od30 an30 : Option Addr} {sl30 : Array (Option Value)} {oc30 kV30 dc30 pm30 cd30 ct30 : Value}
    {f31 : Addr} {od31 an31 : Option Addr} {sl31 : Array (Option Value)} {oc31 kV31 dc31 pm31 cd31 ct31 : Value}
    {f32 : Addr} {od32 an32 : Option Addr} {sl32 : Array (Option Value)} {oc32 kV32 dc32 pm32 cd32 ct32 : Value}
    {f33 : Addr} {od33 an33 : Option Addr} {sl33 : Array (Option Value)} {oc33 kV33 dc33 pm33 cd33 ct33 : Value}
    {f34 : Addr} {od34 an34 : Option Addr} {sl34 : Array (Option Value)} {oc34 kV34 dc34 pm34 cd34 ct34 : Value}
    {f35 : Addr} {od35 an35 : Option Addr} {sl35 : Array (Option Value)} {oc35 kV35 dc35 pm35 cd35 ct35 : Value}
    {f36 : Addr} {od36 an36 : Option Addr} {sl36 : Array (Option Value)} {oc36 kV36 dc36 pm36 cd36 ct36 : Value}
        (qLINE_FEED : PySem.W.nsIn K mainGlobals "LINE_FEED" = some (some (.int (10) tLINE_FEED)))
    (qBLANK : PySem.W.nsIn K mainGlobals "BLANK" = some (some (.int (32) tBLANK)))
    (qBANG : PySem.W.nsIn K mainGlobals "BANG" = some (some (.int (33) tBANG)))
    (qOPENING : PySem.W.nsIn K mainGlobals "OPENING" = some (some (.int (40) tOPENING)))
    (qCLOSING : PySem.W.nsIn K mainGlobals "CLOSING" = some (some (.int (41) tCLOSING)))
    (qSLASH : PySem.W.nsIn K mainGlobals "SLASH" = some (some (.int (47) tSLASH)))
    (qZERO : PySem.W.nsIn K mainGlobals "ZERO" = some (some (.int (48) tZERO)))
    (qNINE : PySem.W.nsIn K mainGlobals "NINE" = some (some (.int (57) tNINE)))
    (qLESS : PySem.W.nsIn K mainGlobals "LESS" = some (some (.int (60) tLESS)))
    (qEQUAL : PySem.W.nsIn K mainGlobals "EQUAL" = some (some (.int (61) tEQUAL)))
    (qGREATER : PySem.W.nsIn K mainGlobals "GREATER" = some (some (.int (62) tGREATER)))
    (qCARET : PySem.W.nsIn K mainGlobals "CARET" = some (some (.int (94) tCARET)))
    (qLETTER_A : PySem.W.nsIn K mainGlobals "LETTER_A" = some (some (.int (97) tLETTER_A)))
    (qLETTER_B : PySem.W.nsIn K mainGlobals "LETTER_B" = some (some (.int (98) tLETTER_B)))
    (qLETTER_H : PySem.W.nsIn K mainGlobals "LETTER_H" = some (some (.int (104) tLETTER_H)))
    (qLETTER_O : PySem.W.nsIn K mainGlobals "LETTER_O" = some (some (.int (111) tLETTER_O)))
    (qBAR : PySem.W.nsIn K mainGlobals "BAR" = some (some (.int (124) tBAR)))
    (qTILDE : PySem.W.nsIn K mainGlobals "TILDE" = some (some (.int (126) tTILDE)))
    (qMOST_BYTES : PySem.W.nsIn K mainGlobals "MOST_BYTES" = some (some (.int (8192) tMOST_BYTES)))
    (qMOST_LEAVES : PySem.W.nsIn K mainGlobals "MOST_LEAVES" = some (some (.int (16) tMOST_LEAVES)))
    (qMOST_FINDINGS : PySem.W.nsIn K mainGlobals "MOST_FINDINGS" = some (some (.int (64) tMOST_FINDINGS)))
    (qMOST_DIGITS : PySem.W.nsIn K mainGlobals "MOST_DIGITS" = some (some (.int (3) tMOST_DIGITS)))
    (qTOO_LONG : PySem.W.nsIn K mainGlobals "TOO_LONG" = some (some (.int (-2) tTOO_LONG)))
    (qBOOK_AT_FAULT : PySem.W.nsIn K mainGlobals "BOOK_AT_FAULT" = some (some (.int (-3) tBOOK_AT_FAULT)))
    (qFINDINGS_AT_FAULT : PySem.W.nsIn K mainGlobals "FINDINGS_AT_FAULT" = some (some (.int (-6) tFINDINGS_AT_FAULT)))
    (qEND : PySem.W.nsIn K mainGlobals "END" = some (some (.int (-1) tEND)))
    (z_enumerate : PySem.W.nsIn K mainGlobals "enumerate" = some none)
    (z_len : PySem.W.nsIn K mainGlobals "len" = some none)
    (z_tuple : PySem.W.nsIn K mainGlobals "tuple" = some none)
    (gcLy : PySem.W.nsIn K mainGlobals "Lying" = some (some (.ref cLy)))
    (pgcLy : PySem.W.plainGet K cLy Str.empty = true)
    (hdcLy : PySem.W.hasDictIn K cLy = true)
    (pocLy : PySem.W.plainOver K cLy = true)
    (sacLy : PySem.W.findIn K (.ref cLy) "__setattr__" = some (some (.builtin "object.__setattr__")))
    (mkcLy : PySem.W.makesIn K cLy = true)
    (kccLy : PySem.W.keepIn K (.ref cLy) = true)
    (na_sides_in_order_cLy : PySem.W.findIn K (.ref cLy) "sides_in_order" = some none)
    (na_side_places_cLy : PySem.W.findIn K (.ref cLy) "side_places" = some none)
    (na_gathering_numbers_cLy : PySem.W.findIn K (.ref cLy) "gathering_numbers" = some none)
    (na_partners_cLy : PySem.W.findIn K (.ref cLy) "partners" = some none)
    (a1 : PySem.W.findIn K (.ref cLy) "__init__" = some (some (.ref f1)))
    (i1 : PySem.W.isFn K (.ref f1) = true)
    (l1 : K.lookup f1 = some ⟨oc1, od1, .func (PySem.W.fnOf "__init__" "Lying.__init__" (defArgs s_Lying_init) (defBody s_Lying_init) (defScope s_Lying_init) .none kV1 dc1 pm1 an1 cd1 ct1), sl1⟩)
    (c1 : PySem.W.codeIn K cd1 "Lying.__init__" = true)
    (k1 : PySem.W.keepIn K (.ref f1) = true)
    (a2 : PySem.W.findIn K (.ref cLy) "leaf_place" = some (some (.ref f2)))
    (i2 : PySem.W.isFn K (.ref f2) = true)
    (l2 : K.lookup f2 = some ⟨oc2, od2, .func (PySem.W.fnOf "leaf_place" "Lying.leaf_place" (defArgs s_Lying_leaf_place) (defBody s_Lying_leaf_place) (defScope s_Lying_leaf_place) .none kV2 dc2 pm2 an2 cd2 ct2), sl2⟩)
    (c2 : PySem.W.codeIn K cd2 "Lying.leaf_place" = true)
    (k2 : PySem.W.keepIn K (.ref f2) = true)
    (a3 : PySem.W.findIn K (.ref cLy) "is_front" = some (some (.ref f3)))
    (i3 : PySem.W.isFn K (.ref f3) = true)
    (l3 : K.lookup f3 = some ⟨oc3, od3, .func (PySem.W.fnOf "is_front" "Lying.is_front" (defArgs s_Lying_is_front) (defBody s_Lying_is_front) (defScope s_Lying_is_front) .none kV3 dc3 pm3 an3 cd3 ct3), sl3⟩)
    (c3 : PySem.W.codeIn K cd3 "Lying.is_front" = true)
    (k3 : PySem.W.keepIn K (.ref f3) = true)
    (gcFi : PySem.W.nsIn K mainGlobals "Finding" = some (some (.ref cFi)))
    (pgcFi : PySem.W.plainGet K cFi Str.empty = true)
    (hdcFi : PySem.W.hasDictIn K cFi = true)
    (pocFi : PySem.W.plainOver K cFi = true)
    (sacFi : PySem.W.findIn K (.ref cFi) "__setattr__" = some (some (.builtin "object.__setattr__")))
    (mkcFi : PySem.W.makesIn K cFi = true)
    (kccFi : PySem.W.keepIn K (.ref cFi) = true)
    (na_negated_cFi : PySem.W.findIn K (.ref cFi) "negated" = some none)
    (na_sign_cFi : PySem.W.findIn K (.ref cFi) "sign" = some none)
    (na_told_cFi : PySem.W.findIn K (.ref cFi) "told" = some none)
    (a4 : PySem.W.findIn K (.ref cFi) "__init__" = some (some (.ref f4)))
    (i4 : PySem.W.isFn K (.ref f4) = true)
    (l4 : K.lookup f4 = some ⟨oc4, od4, .func (PySem.W.fnOf "__init__" "Finding.__init__" (defArgs sFiInit) (defBody sFiInit) (defScope sFiInit) .none kV4 dc4 pm4 an4 cd4 ct4), sl4⟩)
    (c4 : PySem.W.codeIn K cd4 "Finding.__init__" = true)
    (k4 : PySem.W.keepIn K (.ref f4) = true)
    (gcLL : PySem.W.nsIn K mainGlobals "LyingLeaf" = some (some (.ref cLL)))
    (pgcLL : PySem.W.plainGet K cLL Str.empty = true)
    (hdcLL : PySem.W.hasDictIn K cLL = true)
    (pocLL : PySem.W.plainOver K cLL = true)
    (sacLL : PySem.W.findIn K (.ref cLL) "__setattr__" = some (some (.builtin "object.__setattr__")))
    (mkcLL : PySem.W.makesIn K cLL = true)
    (kccLL : PySem.W.keepIn K (.ref cLL) = true)
    (na_number_cLL : PySem.W.findIn K (.ref cLL) "number" = some none)
    (na_front_cLL : PySem.W.findIn K (.ref cLL) "front" = some none)
    (na_sign_cLL : PySem.W.findIn K (.ref cLL) "sign" = some none)
    (a5 : PySem.W.findIn K (.ref cLL) "__init__" = some (some (.ref f5)))
    (i5 : PySem.W.isFn K (.ref f5) = true)
    (l5 : K.lookup f5 = some ⟨oc5, od5, .func (PySem.W.fnOf "__init__" "LyingLeaf.__init__" (defArgs sLLInit) (defBody sLLInit) (defScope sLLInit) .none kV5 dc5 pm5 an5 cd5 ct5), sl5⟩)
    (c5 : PySem.W.codeIn K cd5 "LyingLeaf.__init__" = true)
    (k5 : PySem.W.keepIn K (.ref f5) = true)
    (gcL : PySem.W.nsIn K mainGlobals "TooLong" = some (some (.ref cL)))
    (LcL : K.lookup cL = some (excClassObj nmcL qcL cL NcL bscL bmX true sncL subcL abcL colcL ddcL k0cL k1cL k2cL k3cL k5cL "Exception.__new__"))
    (wcL : K.lookup NcL = some ⟨wocL, wdcL, .dict wecL wncL, wlcL⟩)
    (wacL : (wecL.toList.all fun e => match e.key with | .str _ _ => true | _ => false) = true)
    (n0cL : PySem.W.nsIn K NcL "__setattr__" = some none)
    (n1cL : PySem.W.nsIn K NcL "__getattribute__" = some none)
    (n2cL : PySem.W.nsIn K NcL "__getattr__" = some none)
    (n3cL : PySem.W.nsIn K NcL "answer" = some none)
    (kkcL : PySem.W.keepIn K (.ref cL) = true)
    (a6 : PySem.W.nsIn K NcL "__init__" = some (some (.ref f6)))
    (l6 : K.lookup f6 = some ⟨oc6, od6, .func (PySem.W.fnOf "__init__" "TooLong.__init__" (defArgs sTLInit) (defBody sTLInit) (defScope sTLInit) .none kV6 dc6 pm6 an6 cd6 ct6), sl6⟩)
    (c6 : PySem.W.codeIn K cd6 "TooLong.__init__" = true)
    (k6 : PySem.W.keepIn K (.ref f6) = true)
    (o6 : oc6 = .type "function")
    (gcF : PySem.W.nsIn K mainGlobals "FindingsFault" = some (some (.ref cF)))
    (LcF : K.lookup cF = some (excClassObj nmcF qcF cF NcF bscF bmX true sncF subcF abcF colcF ddcF k0cF k1cF k2cF k3cF k5cF "Exception.__new__"))
    (wcF : K.lookup NcF = some ⟨wocF, wdcF, .dict wecF wncF, wlcF⟩)
    (wacF : (wecF.toList.all fun e => match e.key with | .str _ _ => true | _ => false) = true)
    (n0cF : PySem.W.nsIn K NcF "__setattr__" = some none)
    (n1cF : PySem.W.nsIn K NcF "__getattribute__" = some none)
    (n2cF : PySem.W.nsIn K NcF "__getattr__" = some none)
    (n3cF : PySem.W.nsIn K NcF "answer" = some none)
    (kkcF : PySem.W.keepIn K (.ref cF) = true)
    (a7 : PySem.W.nsIn K NcF "__init__" = some (some (.ref f7)))
    (l7 : K.lookup f7 = some ⟨oc7, od7, .func (PySem.W.fnOf "__init__" "FindingsFault.__init__" (defArgs sFFInit) (defBody sFFInit) (defScope sFFInit) .none kV7 dc7 pm7 an7 cd7 ct7), sl7⟩)
    (c7 : PySem.W.codeIn K cd7 "FindingsFault.__init__" = true)
    (k7 : PySem.W.keepIn K (.ref f7) = true)
    (o7 : oc7 = .type "function")
    (gcB : PySem.W.nsIn K mainGlobals "BookFault" = some (some (.ref cB)))
    (LcB : K.lookup cB = some (excClassObj nmcB qcB cB NcB bscB bmX true sncB subcB abcB colcB ddcB k0cB k1cB k2cB k3cB k5cB "Exception.__new__"))
    (wcB : K.lookup NcB = some ⟨wocB, wdcB, .dict wecB wncB, wlcB⟩)
    (wacB : (wecB.toList.all fun e => match e.key with | .str _ _ => true | _ => false) = true)
    (n0cB : PySem.W.nsIn K NcB "__setattr__" = some none)
    (n1cB : PySem.W.nsIn K NcB "__getattribute__" = some none)
    (n2cB : PySem.W.nsIn K NcB "__getattr__" = some none)
    (n3cB : PySem.W.nsIn K NcB "answer" = some none)
    (kkcB : PySem.W.keepIn K (.ref cB) = true)
    (a8 : PySem.W.nsIn K NcB "__init__" = some (some (.ref f8)))
    (l8 : K.lookup f8 = some ⟨oc8, od8, .func (PySem.W.fnOf "__init__" "BookFault.__init__" (defArgs sBFInit) (defBody sBFInit) (defScope sBFInit) .none kV8 dc8 pm8 an8 cd8 ct8), sl8⟩)
    (c8 : PySem.W.codeIn K cd8 "BookFault.__init__" = true)
    (k8 : PySem.W.keepIn K (.ref f8) = true)
    (o8 : oc8 = .type "function")
    (gcS : PySem.W.nsIn K mainGlobals "Seen" = some (some (.ref cS)))
    (pgcS : PySem.W.plainGet K cS Str.empty = true)
    (hdcS : PySem.W.hasDictIn K cS = true)
    (pocS : PySem.W.plainOver K cS = true)
    (sacS : PySem.W.findIn K (.ref cS) "__setattr__" = some (some (.builtin "object.__setattr__")))
    (mkcS : PySem.W.makesIn K cS = true)
    (kccS : PySem.W.keepIn K (.ref cS) = true)
    (na_leaves_cS : PySem.W.findIn K (.ref cS) "leaves" = some none)
    (na_findings_cS : PySem.W.findIn K (.ref cS) "findings" = some none)
    (a9 : PySem.W.findIn K (.ref cS) "__init__" = some (some (.ref f9)))
    (i9 : PySem.W.isFn K (.ref f9) = true)
    (l9 : K.lookup f9 = some ⟨oc9, od9, .func (PySem.W.fnOf "__init__" "Seen.__init__" (defArgs sSeInit) (defBody sSeInit) (defScope sSeInit) .none kV9 dc9 pm9 an9 cd9 ct9), sl9⟩)
    (c9 : PySem.W.codeIn K cd9 "Seen.__init__" = true)
    (k9 : PySem.W.keepIn K (.ref f9) = true)
    (gcCa : PySem.W.nsIn K mainGlobals "Case" = some (some (.ref cCa)))
    (pgcCa : PySem.W.plainGet K cCa Str.empty = true)
    (hdcCa : PySem.W.hasDictIn K cCa = true)
    (pocCa : PySem.W.plainOver K cCa = true)
    (sacCa : PySem.W.findIn K (.ref cCa) "__setattr__" = some (some (.builtin "object.__setattr__")))
    (mkcCa : PySem.W.makesIn K cCa = true)
    (kccCa : PySem.W.keepIn K (.ref cCa) = true)
    (na_leaves_cCa : PySem.W.findIn K (.ref cCa) "leaves" = some none)
    (na_findings_cCa : PySem.W.findIn K (.ref cCa) "findings" = some none)
    (na_gatherings_cCa : PySem.W.findIn K (.ref cCa) "gatherings" = some none)
    (a10 : PySem.W.findIn K (.ref cCa) "__init__" = some (some (.ref f10)))
    (i10 : PySem.W.isFn K (.ref f10) = true)
    (l10 : K.lookup f10 = some ⟨oc10, od10, .func (PySem.W.fnOf "__init__" "Case.__init__" (defArgs sCaInit) (defBody sCaInit) (defScope sCaInit) .none kV10 dc10 pm10 an10 cd10 ct10), sl10⟩)
    (c10 : PySem.W.codeIn K cd10 "Case.__init__" = true)
    (k10 : PySem.W.keepIn K (.ref f10) = true)
    (gcR : PySem.W.nsIn K mainGlobals "Reader" = some (some (.ref cR)))
    (pgcR : PySem.W.plainGet K cR Str.empty = true)
    (hdcR : PySem.W.hasDictIn K cR = true)
    (pocR : PySem.W.plainOver K cR = true)
    (sacR : PySem.W.findIn K (.ref cR) "__setattr__" = some (some (.builtin "object.__setattr__")))
    (mkcR : PySem.W.makesIn K cR = true)
    (kccR : PySem.W.keepIn K (.ref cR) = true)
    (na_text_cR : PySem.W.findIn K (.ref cR) "text" = some none)
    (na_of_book_cR : PySem.W.findIn K (.ref cR) "of_book" = some none)
    (na_place_cR : PySem.W.findIn K (.ref cR) "place" = some none)
    (a11 : PySem.W.findIn K (.ref cR) "__init__" = some (some (.ref f11)))
    (i11 : PySem.W.isFn K (.ref f11) = true)
    (l11 : K.lookup f11 = some ⟨oc11, od11, .func (PySem.W.fnOf "__init__" "Reader.__init__" (defArgs sRInit) (defBody sRInit) (defScope sRInit) .none kV11 dc11 pm11 an11 cd11 ct11), sl11⟩)
    (c11 : PySem.W.codeIn K cd11 "Reader.__init__" = true)
    (k11 : PySem.W.keepIn K (.ref f11) = true)
    (a12 : PySem.W.findIn K (.ref cR) "fail" = some (some (.ref f12)))
    (i12 : PySem.W.isFn K (.ref f12) = true)
    (l12 : K.lookup f12 = some ⟨oc12, od12, .func (PySem.W.fnOf "fail" "Reader.fail" (defArgs sFail) (defBody sFail) (defScope sFail) .none kV12 dc12 pm12 an12 cd12 ct12), sl12⟩)
    (c12 : PySem.W.codeIn K cd12 "Reader.fail" = true)
    (k12 : PySem.W.keepIn K (.ref f12) = true)
    (a13 : PySem.W.findIn K (.ref cR) "byte" = some (some (.ref f13)))
    (i13 : PySem.W.isFn K (.ref f13) = true)
    (l13 : K.lookup f13 = some ⟨oc13, od13, .func (PySem.W.fnOf "byte" "Reader.byte" (defArgs sByte) (defBody sByte) (defScope sByte) .none kV13 dc13 pm13 an13 cd13 ct13), sl13⟩)
    (c13 : PySem.W.codeIn K cd13 "Reader.byte" = true)
    (k13 : PySem.W.keepIn K (.ref f13) = true)
    (a14 : PySem.W.findIn K (.ref cR) "step" = some (some (.ref f14)))
    (i14 : PySem.W.isFn K (.ref f14) = true)
    (l14 : K.lookup f14 = some ⟨oc14, od14, .func (PySem.W.fnOf "step" "Reader.step" (defArgs sStep) (defBody sStep) (defScope sStep) .none kV14 dc14 pm14 an14 cd14 ct14), sl14⟩)
    (c14 : PySem.W.codeIn K cd14 "Reader.step" = true)
    (k14 : PySem.W.keepIn K (.ref f14) = true)
    (a15 : PySem.W.findIn K (.ref cR) "need" = some (some (.ref f15)))
    (i15 : PySem.W.isFn K (.ref f15) = true)
    (l15 : K.lookup f15 = some ⟨oc15, od15, .func (PySem.W.fnOf "need" "Reader.need" (defArgs sNeed) (defBody sNeed) (defScope sNeed) .none kV15 dc15 pm15 an15 cd15 ct15), sl15⟩)
    (c15 : PySem.W.codeIn K cd15 "Reader.need" = true)
    (k15 : PySem.W.keepIn K (.ref f15) = true)
    (a16 : PySem.W.findIn K (.ref cR) "take_number" = some (some (.ref f16)))
    (i16 : PySem.W.isFn K (.ref f16) = true)
    (l16 : K.lookup f16 = some ⟨oc16, od16, .func (PySem.W.fnOf "take_number" "Reader.take_number" (defArgs sNumber) (defBody sNumber) (defScope sNumber) .none kV16 dc16 pm16 an16 cd16 ct16), sl16⟩)
    (c16 : PySem.W.codeIn K cd16 "Reader.take_number" = true)
    (k16 : PySem.W.keepIn K (.ref f16) = true)
    (a17 : PySem.W.nsIn K mainGlobals "_wall" = some (some (.ref f17)))
    (l17 : K.lookup f17 = some ⟨oc17, od17, .func (PySem.W.fnOf "_wall" "_wall" (defArgs s__wall) (defBody s__wall) (defScope s__wall) .none kV17 dc17 pm17 an17 cd17 ct17), sl17⟩)
    (c17 : PySem.W.codeIn K cd17 "_wall" = true)
    (k17 : PySem.W.keepIn K (.ref f17) = true)
    (a18 : PySem.W.nsIn K mainGlobals "list_sides" = some (some (.ref f18)))
    (l18 : K.lookup f18 = some ⟨oc18, od18, .func (PySem.W.fnOf "list_sides" "list_sides" (defArgs s_list_sides) (defBody s_list_sides) (defScope s_list_sides) .none kV18 dc18 pm18 an18 cd18 ct18), sl18⟩)
    (c18 : PySem.W.codeIn K cd18 "list_sides" = true)
    (k18 : PySem.W.keepIn K (.ref f18) = true)
    (a19 : PySem.W.nsIn K mainGlobals "number_sides" = some (some (.ref f19)))
    (l19 : K.lookup f19 = some ⟨oc19, od19, .func (PySem.W.fnOf "number_sides" "number_sides" (defArgs s_number_sides) (defBody s_number_sides) (defScope s_number_sides) .none kV19 dc19 pm19 an19 cd19 ct19), sl19⟩)
    (c19 : PySem.W.codeIn K cd19 "number_sides" = true)
    (k19 : PySem.W.keepIn K (.ref f19) = true)
    (a20 : PySem.W.nsIn K mainGlobals "number_gatherings" = some (some (.ref f20)))
    (l20 : K.lookup f20 = some ⟨oc20, od20, .func (PySem.W.fnOf "number_gatherings" "number_gatherings" (defArgs s_number_gatherings) (defBody s_number_gatherings) (defScope s_number_gatherings) .none kV20 dc20 pm20 an20 cd20 ct20), sl20⟩)
    (c20 : PySem.W.codeIn K cd20 "number_gatherings" = true)
    (k20 : PySem.W.keepIn K (.ref f20) = true)
    (a21 : PySem.W.nsIn K mainGlobals "find_partners" = some (some (.ref f21)))
    (l21 : K.lookup f21 = some ⟨oc21, od21, .func (PySem.W.fnOf "find_partners" "find_partners" (defArgs s_find_partners) (defBody s_find_partners) (defScope s_find_partners) .none kV21 dc21 pm21 an21 cd21 ct21), sl21⟩)
    (c21 : PySem.W.codeIn K cd21 "find_partners" = true)
    (k21 : PySem.W.keepIn K (.ref f21) = true)
    (a22 : PySem.W.nsIn K mainGlobals "read_case" = some (some (.ref f22)))
    (l22 : K.lookup f22 = some ⟨oc22, od22, .func (PySem.W.fnOf "read_case" "read_case" (defArgs sCase) (defBody sCase) (defScope sCase) .none kV22 dc22 pm22 an22 cd22 ct22), sl22⟩)
    (c22 : PySem.W.codeIn K cd22 "read_case" = true)
    (k22 : PySem.W.keepIn K (.ref f22) = true)
    (a23 : PySem.W.nsIn K mainGlobals "need_short" = some (some (.ref f23)))
    (l23 : K.lookup f23 = some ⟨oc23, od23, .func (PySem.W.fnOf "need_short" "need_short" (defArgs sShort) (defBody sShort) (defScope sShort) .none kV23 dc23 pm23 an23 cd23 ct23), sl23⟩)
    (c23 : PySem.W.codeIn K cd23 "need_short" = true)
    (k23 : PySem.W.keepIn K (.ref f23) = true)
    (a24 : PySem.W.nsIn K mainGlobals "read_number" = some (some (.ref f24)))
    (l24 : K.lookup f24 = some ⟨oc24, od24, .func (PySem.W.fnOf "read_number" "read_number" (defArgs sRN) (defBody sRN) (defScope sRN) .none kV24 dc24 pm24 an24 cd24 ct24), sl24⟩)
    (c24 : PySem.W.codeIn K cd24 "read_number" = true)
    (k24 : PySem.W.keepIn K (.ref f24) = true)
    (a25 : PySem.W.nsIn K mainGlobals "read_letter" = some (some (.ref f25)))
    (l25 : K.lookup f25 = some ⟨oc25, od25, .func (PySem.W.fnOf "read_letter" "read_letter" (defArgs sRL) (defBody sRL) (defScope sRL) .none kV25 dc25 pm25 an25 cd25 ct25), sl25⟩)
    (c25 : PySem.W.codeIn K cd25 "read_letter" = true)
    (k25 : PySem.W.keepIn K (.ref f25) = true)
    (a26 : PySem.W.nsIn K mainGlobals "read_side" = some (some (.ref f26)))
    (l26 : K.lookup f26 = some ⟨oc26, od26, .func (PySem.W.fnOf "read_side" "read_side" (defArgs sRSd) (defBody sRSd) (defScope sRSd) .none kV26 dc26 pm26 an26 cd26 ct26), sl26⟩)
    (c26 : PySem.W.codeIn K cd26 "read_side" = true)
    (k26 : PySem.W.keepIn K (.ref f26) = true)
    (a27 : PySem.W.nsIn K mainGlobals "read_findings" = some (some (.ref f27)))
    (l27 : K.lookup f27 = some ⟨oc27, od27, .func (PySem.W.fnOf "read_findings" "read_findings" (defArgs sRFs) (defBody sRFs) (defScope sRFs) .none kV27 dc27 pm27 an27 cd27 ct27), sl27⟩)
    (c27 : PySem.W.codeIn K cd27 "read_findings" = true)
    (k27 : PySem.W.keepIn K (.ref f27) = true)
    (a28 : PySem.W.nsIn K mainGlobals "read_finding" = some (some (.ref f28)))
    (l28 : K.lookup f28 = some ⟨oc28, od28, .func (PySem.W.fnOf "read_finding" "read_finding" (defArgs sRF) (defBody sRF) (defScope sRF) .none kV28 dc28 pm28 an28 cd28 ct28), sl28⟩)
    (c28 : PySem.W.codeIn K cd28 "read_finding" = true)
    (k28 : PySem.W.keepIn K (.ref f28) = true)
    (a29 : PySem.W.nsIn K mainGlobals "read_rising" = some (some (.ref f29)))
    (l29 : K.lookup f29 = some ⟨oc29, od29, .func (PySem.W.fnOf "read_rising" "read_rising" (defArgs sRR) (defBody sRR) (defScope sRR) .none kV29 dc29 pm29 an29 cd29 ct29), sl29⟩)
    (c29 : PySem.W.codeIn K cd29 "read_rising" = true)
    (k29 : PySem.W.keepIn K (.ref f29) = true)
    (a30 : PySem.W.nsIn K mainGlobals "read_related" = some (some (.ref f30)))
    (l30 : K.lookup f30 = some ⟨oc30, od30, .func (PySem.W.fnOf "read_related" "read_related" (defArgs sRel) (defBody sRel) (defScope sRel) .none kV30 dc30 pm30 an30 cd30 ct30), sl30⟩)
    (c30 : PySem.W.codeIn K cd30 "read_related" = true)
    (k30 : PySem.W.keepIn K (.ref f30) = true)
    (a31 : PySem.W.nsIn K mainGlobals "read_behind_leaf" = some (some (.ref f31)))
    (l31 : K.lookup f31 = some ⟨oc31, od31, .func (PySem.W.fnOf "read_behind_leaf" "read_behind_leaf" (defArgs sBL) (defBody sBL) (defScope sBL) .none kV31 dc31 pm31 an31 cd31 ct31), sl31⟩)
    (c31 : PySem.W.codeIn K cd31 "read_behind_leaf" = true)
    (k31 : PySem.W.keepIn K (.ref f31) = true)
    (a32 : PySem.W.nsIn K mainGlobals "read_behind_side" = some (some (.ref f32)))
    (l32 : K.lookup f32 = some ⟨oc32, od32, .func (PySem.W.fnOf "read_behind_side" "read_behind_side" (defArgs sBS) (defBody sBS) (defScope sBS) .none kV32 dc32 pm32 an32 cd32 ct32), sl32⟩)
    (c32 : PySem.W.codeIn K cd32 "read_behind_side" = true)
    (k32 : PySem.W.keepIn K (.ref f32) = true)
    (a33 : PySem.W.nsIn K mainGlobals "read_book" = some (some (.ref f33)))
    (l33 : K.lookup f33 = some ⟨oc33, od33, .func (PySem.W.fnOf "read_book" "read_book" (defArgs sRB) (defBody sRB) (defScope sRB) .none kV33 dc33 pm33 an33 cd33 ct33), sl33⟩)
    (c33 : PySem.W.codeIn K cd33 "read_book" = true)
    (k33 : PySem.W.keepIn K (.ref f33) = true)
    (a34 : PySem.W.nsIn K mainGlobals "read_whether_gathering_ends" = some (some (.ref f34)))
    (l34 : K.lookup f34 = some ⟨oc34, od34, .func (PySem.W.fnOf "read_whether_gathering_ends" "read_whether_gathering_ends" (defArgs sWGE) (defBody sWGE) (defScope sWGE) .none kV34 dc34 pm34 an34 cd34 ct34), sl34⟩)
    (c34 : PySem.W.codeIn K cd34 "read_whether_gathering_ends" = true)
    (k34 : PySem.W.keepIn K (.ref f34) = true)
    (a35 : PySem.W.nsIn K mainGlobals "read_lying_leaf" = some (some (.ref f35)))
    (l35 : K.lookup f35 = some ⟨oc35, od35, .func (PySem.W.fnOf "read_lying_leaf" "read_lying_leaf" (defArgs sRLL) (defBody sRLL) (defScope sRLL) .none kV35 dc35 pm35 an35 cd35 ct35), sl35⟩)
    (c35 : PySem.W.codeIn K cd35 "read_lying_leaf" = true)
    (k35 : PySem.W.keepIn K (.ref f35) = true)
    (a36 : PySem.W.nsIn K mainGlobals "sides" = some (some (.ref f36)))
    (l36 : K.lookup f36 = some ⟨oc36, od36, .func (PySem.W.fnOf "sides" "sides" (defArgs s_sides) (defBody s_sides) (defScope s_sides) .none kV36 dc36 pm36 an36 cd36 ct36), sl36⟩)
    (c36 : PySem.W.codeIn K cd36 "sides" = true)
    (k36 : PySem.W.keepIn K (.ref f36) = true)
    (ecL : PySem.W.exmAny K (.ref cL) [.ref cL, .ref cF, .ref cB] = some true)
    (ecF : PySem.W.exmAny K (.ref cF) [.ref cL, .ref cF, .ref cB] = some true)
    (ecB : PySem.W.exmAny K (.ref cB) [.ref cL, .ref cF, .ref cB] = some true) :
    ∃ fd : FuncData, (∀ (s : Shared) (us : List Value), us.length = (["t", "u"] : List Str).length → BindsTo s fd ⟨us, []⟩ ((["t", "u"] : List Str).zip us)) ∧ ∀ base : Heap, K.In base → base.Ns mainGlobals mg → FnOk P w K mg base (CXx P w) 12 fa fd ["t", "u"] (spSides K) := by
  have e : f36 = fa := by
    have z := (PySem.W.mg_of X G a36).symm.trans hfa
    cases z
    rfl
  subst e
  have CcLy : Cls K cLy := ⟨pgcLy, hdcLy, pocLy, sacLy⟩
  have F1 := fun_mk (st := s_Lying_init) l1 c1 k1
  have b1 := F1.binds (ps := ["self", "gatherings"]) fun _ _ _ _ _ _ us hl => match us, hl with | [_, _], _ => rfl
  have McLy : Mk K cLy f1 := ⟨mkcLy, a1, i1, kccLy⟩
  have F2 := fun_mk (st := s_Lying_leaf_place) l2 c2 k2
  have b2 := F2.binds (ps := ["self", "leaf"]) fun _ _ _ _ _ _ us hl => match us, hl with | [_, _], _ => rfl
  have m2 : Meth K cLy "leaf_place" f2 := ⟨a2, i2, k2⟩
  have F3 := fun_mk (st := s_Lying_is_front) l3 c3 k3
  have b3 := F3.binds (ps := ["self", "side"]) fun _ _ _ _ _ _ us hl => match us, hl with | [_, _], _ => rfl
  have m3 : Meth K cLy "is_front" f3 := ⟨a3, i3, k3⟩
  have CcFi : Cls K cFi := ⟨pgcFi, hdcFi, pocFi, sacFi⟩
  have F4 := fun_mk (st := sFiInit) l4 c4 k4
  have b4 := F4.binds (ps := ["self", "negated", "sign", "told"]) fun _ _ _ _ _ _ us hl => match us, hl with | [_, _, _, _], _ => rfl
  have McFi : Mk K cFi f4 := ⟨mkcFi, a4, i4, kccFi⟩
  have CcLL : Cls K cLL := ⟨pgcLL, hdcLL, pocLL, sacLL⟩
  have F5 := fun_mk (st := sLLInit) l5 c5 k5
  have b5 := F5.binds (ps := ["self", "number", "front", "sign"]) fun _ _ _ _ _ _ us hl => match us, hl with | [_, _, _, _], _ => rfl
  have McLL : Mk K cLL f5 := ⟨mkcLL, a5, i5, kccLL⟩
  have nkcL : PySem.W.nsOkIn K NcL = true := by unfold PySem.W.nsOkIn; rw [wcL]; exact (Array.all_toList ..).symm.trans wacL
  have F6 := fun_mk (st := sTLInit) l6 c6 k6
  have b6 := F6.binds (ps := ["self"]) fun _ _ _ _ _ _ us hl => match us, hl with | [_], _ => rfl
  have XcL : XMk K cL f6 := ⟨⟨_, NcL, LcL, ⟨_, _, _, _, _, _, _, _, _, _, _, _, _, rfl⟩, nkcL, a6⟩, ⟨_, l6, o6⟩, kkcL⟩
  have YcL : XCls K cL "answer" := ⟨⟨_, NcL, LcL, ⟨_, _, _, _, _, _, _, _, _, _, _, _, _, rfl⟩, nkcL, n0cL, n1cL, n2cL, n3cL⟩, nb_answer⟩
  have nkcF : PySem.W.nsOkIn K NcF = true := by unfold PySem.W.nsOkIn; rw [wcF]; exact (Array.all_toList ..).symm.trans wacF
  have F7 := fun_mk (st := sFFInit) l7 c7 k7
  have b7 := F7.binds (ps := ["self", "place"]) fun _ _ _ _ _ _ us hl => match us, hl with | [_, _], _ => rfl
  have XcF : XMk K cF f7 := ⟨⟨_, NcF, LcF, ⟨_, _, _, _, _, _, _, _, _, _, _, _, _, rfl⟩, nkcF, a7⟩, ⟨_, l7, o7⟩, kkcF⟩
  have YcF : XCls K cF "answer" := ⟨⟨_, NcF, LcF, ⟨_, _, _, _, _, _, _, _, _, _, _, _, _, rfl⟩, nkcF, n0cF, n1cF, n2cF, n3cF⟩, nb_answer⟩
  have nkcB : PySem.W.nsOkIn K NcB = true := by unfold PySem.W.nsOkIn; rw [wcB]; exact (Array.all_toList ..).symm.trans wacB
  have F8 := fun_mk (st := sBFInit) l8 c8 k8
  have b8 := F8.binds (ps := ["self", "place"]) fun _ _ _ _ _ _ us hl => match us, hl with | [_, _], _ => rfl
  have XcB : XMk K cB f8 := ⟨⟨_, NcB, LcB, ⟨_, _, _, _, _, _, _, _, _, _, _, _, _, rfl⟩, nkcB, a8⟩, ⟨_, l8, o8⟩, kkcB⟩
  have YcB : XCls K cB "answer" := ⟨⟨_, NcB, LcB, ⟨_, _, _, _, _, _, _, _, _, _, _, _, _, rfl⟩, nkcB, n0cB, n1cB, n2cB, n3cB⟩, nb_answer⟩
  have CcS : Cls K cS := ⟨pgcS, hdcS, pocS, sacS⟩
  have F9 := fun_mk (st := sSeInit) l9 c9 k9
  have b9 := F9.binds (ps := ["self", "leaves", "findings"]) fun _ _ _ _ _ _ us hl => match us, hl with | [_, _, _], _ => rfl
  have McS : Mk K cS f9 := ⟨mkcS, a9, i9, kccS⟩
  have CcCa : Cls K cCa := ⟨pgcCa, hdcCa, pocCa, sacCa⟩
  have F10 := fun_mk (st := sCaInit) l10 c10 k10
  have b10 := F10.binds (ps := ["self", "seen", "gatherings"]) fun _ _ _ _ _ _ us hl => match us, hl with | [_, _, _], _ => rfl
  have McCa : Mk K cCa f10 := ⟨mkcCa, a10, i10, kccCa⟩
  have CcR : Cls K cR := ⟨pgcR, hdcR, pocR, sacR⟩
  have F11 := fun_mk (st := sRInit) l11 c11 k11
  have b11 := F11.binds (ps := ["self", "text", "of_book"]) fun _ _ _ _ _ _ us hl => match us, hl with | [_, _, _], _ => rfl
  have McR : Mk K cR f11 := ⟨mkcR, a11, i11, kccR⟩
  have F12 := fun_mk (st := sFail) l12 c12 k12
  have b12 := F12.binds (ps := ["self", "place"]) fun _ _ _ _ _ _ us hl => match us, hl with | [_, _], _ => rfl
  have m12 : Meth K cR "fail" f12 := ⟨a12, i12, k12⟩
  have F13 := fun_mk (st := sByte) l13 c13 k13
  have b13 := F13.binds (ps := ["self"]) fun _ _ _ _ _ _ us hl => match us, hl with | [_], _ => rfl
  have m13 : Meth K cR "byte" f13 := ⟨a13, i13, k13⟩
  have F14 := fun_mk (st := sStep) l14 c14 k14
  have b14 := F14.binds (ps := ["self"]) fun _ _ _ _ _ _ us hl => match us, hl with | [_], _ => rfl
  have m14 : Meth K cR "step" f14 := ⟨a14, i14, k14⟩
  have F15 := fun_mk (st := sNeed) l15 c15 k15
  have b15 := F15.binds (ps := ["self", "allowed"]) fun _ _ _ _ _ _ us hl => match us, hl with | [_, _], _ => rfl
  have m15 : Meth K cR "need" f15 := ⟨a15, i15, k15⟩
  have F16 := fun_mk (st := sNumber) l16 c16 k16
  have b16 := F16.binds (ps := ["self"]) fun _ _ _ _ _ _ us hl => match us, hl with | [_], _ => rfl
  have m16 : Meth K cR "take_number" f16 := ⟨a16, i16, k16⟩
  have F17 := fun_mk (st := s__wall) l17 c17 k17
  have b17 := F17.binds (ps := ["k"]) fun _ _ _ _ _ _ us hl => match us, hl with | [_], _ => rfl
  have G17 : FGl K mg "_wall" s__wall ["k"] f17 _ := ⟨⟨F17, b17, k17⟩, PySem.W.mg_of X G a17⟩
  have F18 := fun_mk (st := s_list_sides) l18 c18 k18
  have b18 := F18.binds (ps := ["gatherings"]) fun _ _ _ _ _ _ us hl => match us, hl with | [_], _ => rfl
  have G18 : FGl K mg "list_sides" s_list_sides ["gatherings"] f18 _ := ⟨⟨F18, b18, k18⟩, PySem.W.mg_of X G a18⟩
  have F19 := fun_mk (st := s_number_sides) l19 c19 k19
  have b19 := F19.binds (ps := ["sides"]) fun _ _ _ _ _ _ us hl => match us, hl with | [_], _ => rfl
  have G19 : FGl K mg "number_sides" s_number_sides ["sides"] f19 _ := ⟨⟨F19, b19, k19⟩, PySem.W.mg_of X G a19⟩
  have F20 := fun_mk (st := s_number_gatherings) l20 c20 k20
  have b20 := F20.binds (ps := ["gatherings"]) fun _ _ _ _ _ _ us hl => match us, hl with | [_], _ => rfl
  have G20 : FGl K mg "number_gatherings" s_number_gatherings ["gatherings"] f20 _ := ⟨⟨F20, b20, k20⟩, PySem.W.mg_of X G a20⟩
  have F21 := fun_mk (st := s_find_partners) l21 c21 k21
  have b21 := F21.binds (ps := ["gatherings"]) fun _ _ _ _ _ _ us hl => match us, hl with | [_], _ => rfl
  have G21 : FGl K mg "find_partners" s_find_partners ["gatherings"] f21 _ := ⟨⟨F21, b21, k21⟩, PySem.W.mg_of X G a21⟩
  have F22 := fun_mk (st := sCase) l22 c22 k22
  have b22 := F22.binds (ps := ["t", "u"]) fun _ _ _ _ _ _ us hl => match us, hl with | [_, _], _ => rfl
  have G22 : FGl K mg "read_case" sCase ["t", "u"] f22 _ := ⟨⟨F22, b22, k22⟩, PySem.W.mg_of X G a22⟩
  have F23 := fun_mk (st := sShort) l23 c23 k23
  have b23 := F23.binds (ps := ["text"]) fun _ _ _ _ _ _ us hl => match us, hl with | [_], _ => rfl
  have G23 : FGl K mg "need_short" sShort ["text"] f23 _ := ⟨⟨F23, b23, k23⟩, PySem.W.mg_of X G a23⟩
  have F24 := fun_mk (st := sRN) l24 c24 k24
  have b24 := F24.binds (ps := ["reader", "least", "most"]) fun _ _ _ _ _ _ us hl => match us, hl with | [_, _, _], _ => rfl
  have G24 : FGl K mg "read_number" sRN ["reader", "least", "most"] f24 _ := ⟨⟨F24, b24, k24⟩, PySem.W.mg_of X G a24⟩
  have F25 := fun_mk (st := sRL) l25 c25 k25
  have b25 := F25.binds (ps := ["reader"]) fun _ _ _ _ _ _ us hl => match us, hl with | [_], _ => rfl
  have G25 : FGl K mg "read_letter" sRL ["reader"] f25 _ := ⟨⟨F25, b25, k25⟩, PySem.W.mg_of X G a25⟩
  have F26 := fun_mk (st := sRSd) l26 c26 k26
  have b26 := F26.binds (ps := ["reader", "leaves"]) fun _ _ _ _ _ _ us hl => match us, hl with | [_, _], _ => rfl
  have G26 : FGl K mg "read_side" sRSd ["reader", "leaves"] f26 _ := ⟨⟨F26, b26, k26⟩, PySem.W.mg_of X G a26⟩
  have F27 := fun_mk (st := sRFs) l27 c27 k27
  have b27 := F27.binds (ps := ["text"]) fun _ _ _ _ _ _ us hl => match us, hl with | [_], _ => rfl
  have G27 : FGl K mg "read_findings" sRFs ["text"] f27 _ := ⟨⟨F27, b27, k27⟩, PySem.W.mg_of X G a27⟩
  have F28 := fun_mk (st := sRF) l28 c28 k28
  have b28 := F28.binds (ps := ["reader", "leaves"]) fun _ _ _ _ _ _ us hl => match us, hl with | [_, _], _ => rfl
  have G28 : FGl K mg "read_finding" sRF ["reader", "leaves"] f28 _ := ⟨⟨F28, b28, k28⟩, PySem.W.mg_of X G a28⟩
  have F29 := fun_mk (st := sRR) l29 c29 k29
  have b29 := F29.binds (ps := ["reader", "leaves", "negated"]) fun _ _ _ _ _ _ us hl => match us, hl with | [_, _, _], _ => rfl
  have G29 : FGl K mg "read_rising" sRR ["reader", "leaves", "negated"] f29 _ := ⟨⟨F29, b29, k29⟩, PySem.W.mg_of X G a29⟩
  have F30 := fun_mk (st := sRel) l30 c30 k30
  have b30 := F30.binds (ps := ["reader", "leaves", "negated"]) fun _ _ _ _ _ _ us hl => match us, hl with | [_, _, _], _ => rfl
  have G30 : FGl K mg "read_related" sRel ["reader", "leaves", "negated"] f30 _ := ⟨⟨F30, b30, k30⟩, PySem.W.mg_of X G a30⟩
  have F31 := fun_mk (st := sBL) l31 c31 k31
  have b31 := F31.binds (ps := ["reader", "leaves", "negated", "leaf"]) fun _ _ _ _ _ _ us hl => match us, hl with | [_, _, _, _], _ => rfl
  have G31 : FGl K mg "read_behind_leaf" sBL ["reader", "leaves", "negated", "leaf"] f31 _ := ⟨⟨F31, b31, k31⟩, PySem.W.mg_of X G a31⟩
  have F32 := fun_mk (st := sBS) l32 c32 k32
  have b32 := F32.binds (ps := ["reader", "leaves", "negated", "side"]) fun _ _ _ _ _ _ us hl => match us, hl with | [_, _, _, _], _ => rfl
  have G32 : FGl K mg "read_behind_side" sBS ["reader", "leaves", "negated", "side"] f32 _ := ⟨⟨F32, b32, k32⟩, PySem.W.mg_of X G a32⟩
  have F33 := fun_mk (st := sRB) l33 c33 k33
  have b33 := F33.binds (ps := ["text", "leaves"]) fun _ _ _ _ _ _ us hl => match us, hl with | [_, _], _ => rfl
  have G33 : FGl K mg "read_book" sRB ["text", "leaves"] f33 _ := ⟨⟨F33, b33, k33⟩, PySem.W.mg_of X G a33⟩
  have F34 := fun_mk (st := sWGE) l34 c34 k34
  have b34 := F34.binds (ps := ["reader", "waiting"]) fun _ _ _ _ _ _ us hl => match us, hl with | [_, _], _ => rfl
  have G34 : FGl K mg "read_whether_gathering_ends" sWGE ["reader", "waiting"] f34 _ := ⟨⟨F34, b34, k34⟩, PySem.W.mg_of X G a34⟩
  have F35 := fun_mk (st := sRLL) l35 c35 k35
  have b35 := F35.binds (ps := ["reader", "leaves", "placed", "waiting"]) fun _ _ _ _ _ _ us hl => match us, hl with | [_, _, _, _], _ => rfl
  have G35 : FGl K mg "read_lying_leaf" sRLL ["reader", "leaves", "placed", "waiting"] f35 _ := ⟨⟨F35, b35, k35⟩, PySem.W.mg_of X G a35⟩
  have F36 := fun_mk (st := s_sides) l36 c36 k36
  have b36 := F36.binds (ps := ["t", "u"]) fun _ _ _ _ _ _ us hl => match us, hl with | [_, _], _ => rfl
  have G36 : FGl K mg "sides" s_sides ["t", "u"] f36 _ := ⟨⟨F36, b36, k36⟩, PySem.W.mg_of X G a36⟩
  have T : Txt K mg ⟨cR, cF, cB, cL, cS, cFi⟩ := ⟨CcR, na_text_cR, na_of_book_cR, na_place_cR, YcF, YcB, YcL, CcFi, na_negated_cFi, na_sign_cFi, na_told_cFi, CcS, na_leaves_cS, na_findings_cS, PySem.W.mg_of X G gcL, PySem.W.mg_of X G gcS, PySem.W.mg_of X G gcFi, PySem.W.mg_of X G gcR, PySem.W.mg_of X G gcF, PySem.W.mg_of X G gcB, PySem.W.ns_none_of X G z_len, PySem.W.ns_none_of X G z_tuple, ⟨_, PySem.W.mg_of X G qEND⟩, ⟨_, PySem.W.mg_of X G qZERO⟩, ⟨_, PySem.W.mg_of X G qNINE⟩, ⟨_, PySem.W.mg_of X G qMOST_DIGITS⟩, ⟨_, PySem.W.mg_of X G qBLANK⟩, ⟨_, PySem.W.mg_of X G qLINE_FEED⟩, ⟨_, PySem.W.mg_of X G qBANG⟩, ⟨_, PySem.W.mg_of X G qLESS⟩, ⟨_, PySem.W.mg_of X G qEQUAL⟩, ⟨_, PySem.W.mg_of X G qGREATER⟩, ⟨_, PySem.W.mg_of X G qCARET⟩, ⟨_, PySem.W.mg_of X G qLETTER_A⟩, ⟨_, PySem.W.mg_of X G qLETTER_B⟩, ⟨_, PySem.W.mg_of X G qLETTER_H⟩, ⟨_, PySem.W.mg_of X G qLETTER_O⟩, ⟨_, PySem.W.mg_of X G qBAR⟩, ⟨_, PySem.W.mg_of X G qTILDE⟩, ⟨_, PySem.W.mg_of X G qMOST_LEAVES⟩, ⟨_, PySem.W.mg_of X G qMOST_FINDINGS⟩, ⟨_, PySem.W.mg_of X G qMOST_BYTES⟩, ⟨_, PySem.W.mg_of X G qTOO_LONG⟩, ⟨_, PySem.W.mg_of X G qBOOK_AT_FAULT⟩, ⟨_, PySem.W.mg_of X G qFINDINGS_AT_FAULT⟩⟩
  have TB : TxtB K mg ⟨cLL, cCa⟩ := ⟨CcLL, na_number_cLL, na_front_cLL, na_sign_cLL, CcCa, na_leaves_cCa, na_findings_cCa, na_gatherings_cCa, PySem.W.mg_of X G gcLL, PySem.W.mg_of X G gcCa, ⟨_, PySem.W.mg_of X G qOPENING⟩, ⟨_, PySem.W.mg_of X G qCLOSING⟩, ⟨_, PySem.W.mg_of X G qSLASH⟩⟩
  have TY : TxtY K mg cLy := ⟨CcLy, na_sides_in_order_cLy, na_side_places_cLy, na_gathering_numbers_cLy, na_partners_cLy, PySem.W.mg_of X G gcLy, PySem.W.ns_none_of X G z_enumerate⟩
  refine ⟨PySem.W.fnOf "sides" "sides" (defArgs s_sides) (defBody s_sides) (defScope s_sides) .none kV36 dc36 pm36 an36 cd36 ct36, fun s us hu => match us, hu with | [_, _], _ => .of_eq rfl, fun base _ _ => ?_⟩
  have RD := reads_ok T ⟨F7, b7, k7⟩ XcF ⟨F8, b8, k8⟩ XcB ⟨F6, b6, k6⟩ XcL ⟨F4, b4, k4⟩ McFi ⟨F9, b9, k9⟩ McS ⟨F11, b11, k11⟩ McR ⟨F12, b12, k12⟩ m12 ⟨F13, b13, k13⟩ m13 ⟨F14, b14, k14⟩ m14 ⟨F15, b15, k15⟩ m15 ⟨F16, b16, k16⟩ m16 G24 G25 G26 G31 G32 G29 G30 G28 G27 G23 (P := P) (w := w) (base := base)
  have LM : LLM P w K mg base ⟨cLL, cCa⟩ f5 _ := ⟨McLL, ok_llinit F5 TB, b5⟩
  have RBO := ok_rb (P := P) (w := w) (base := base) F33 T TB RD (fun bs => ok_wge F34 T TB (RD.M bs) (RD.G bs)) b34 k34 G34.m (fun bs => ok_rll F35 T TB (RD.M bs) (RD.G bs) (RD.R bs) LM) b35 k35 G35.m
  have CSO := ok_case (P := P) (w := w) (base := base) F22 T TB RD.T2 RBO b33 k33 G33.m McCa (ok_cainit F10 T TB) b10
  have FO : Four P w K mg base ⟨cLL, cCa⟩ f18 f19 f20 f21 _ _ _ _ := ⟨ok_ls F18 TB, ok_ns F19 TY, ok_ng F20 TB TY, ok_fp F21 TB, b18, b19, b20, b21, k18, k19, k20, k21, G18.m, G19.m, G20.m, G21.m⟩
  have YO : YM P w K mg base ⟨cLL, cCa⟩ cLy f1 _ := ⟨McLy, ok_yinit F1 TY FO, b1⟩
  exact ok_sides F36 T TB TY YO CSO b22 k22 G22.m ecL ecF ecB
end Desk
open PySem PySem.W PyProof.Rows
set_option maxRecDepth 100000 in
set_option maxHeartbeats 0 in
theorem PySem.Challenge.cw_looseleavesdesk_s06_sides_holds : PySem.Challenge.rw_looseleavesdesk_s06_sides.Holds := by
  w_on
  refine PySem.W.holds_os (q := Desk.hq) (loose := []) (Xt := Desk.hXt) (XP := PySem.W.XL Desk.hq []) (YP := PySem.W.InK Desk.kpart) Desk.hleft
    (fun w s e => PySem.W.InK.of Desk.kat_eq w s e) PySem.W.InK.keeps
    (fun s e => PySem.W.xl_of s (Desk.hXt_of e).1) PySem.W.XL.keeps (d := ⟨"sides", L2.defArgs Desk.s_sides, L2.defBody Desk.s_sides, L2.defScope Desk.s_sides, Desk.defPos Desk.s_sides⟩) (kwd := []) (by kernel_rfl) (by kernel_rfl) (by kernel_rfl)
    (fun s e => PySem.W.recFacts_of (Desk.hXt_of e).2) PySem.W.os_shapes (by decide +kernel) (by decide +kernel) ⟨rfl, rfl, rfl, rfl, rfl, by decide +kernel⟩ ⟨[.list [], .list []], by decide +kernel, by decide +kernel⟩ ?hc
  k_fillS
  refine L2.walk_specX (r := PySem.Challenge.rw_looseleavesdesk_s06_sides) (k := 12) (CX := fun w => L2.CXx (PySem.Challenge.rw_looseleavesdesk_s06_sides).prog w) (ps := ["t", "u"]) (sp := Desk.spSides) (by decide +kernel) rfl rfl ⟨rfl, by decide, by decide⟩ (fun w h Y => Y) ?F ?S (fun w H s e s' z => by
    obtain ⟨_, _, _, _, _, _, _, _, _, _, _, q⟩ := z
    exact q.elim)
  case F =>
    intro w mg fa h Y KX G hmg
    refine' Desk.all_mk KX G hmg ?qLINE_FEED ?qBLANK ?qBANG ?qOPENING ?qCLOSING ?qSLASH ?qZERO ?qNINE ?qLESS ?qEQUAL ?qGREATER ?qCARET ?qLETTER_A ?qLETTER_B ?qLETTER_H ?qLETTER_O ?qBAR ?qTILDE ?qMOST_BYTES ?qMOST_LEAVES ?qMOST_FINDINGS ?qMOST_DIGITS ?qTOO_LONG ?qBOOK_AT_FAULT ?qFINDINGS_AT_FAULT ?qEND ?z_enumerate ?z_len ?z_tuple ?gcLy ?pgcLy ?hdcLy ?pocLy ?sacLy ?mkcLy ?kccLy ?na_sides_in_order_cLy ?na_side_places_cLy ?na_gathering_numbers_cLy ?na_partners_cLy ?a1 ?i1 ?l1 ?c1 ?k1 ?a2 ?i2 ?l2 ?c2 ?k2 ?a3 ?i3 ?l3 ?c3 ?k3 ?gcFi ?pgcFi ?hdcFi ?pocFi ?sacFi ?mkcFi ?kccFi ?na_negated_cFi ?na_sign_cFi ?na_told_cFi ?a4 ?i4 ?l4 ?c4 ?k4 ?gcLL ?pgcLL ?hdcLL ?pocLL ?sacLL ?mkcLL ?kccLL ?na_number_cLL ?na_front_cLL ?na_sign_cLL ?a5 ?i5 ?l5 ?c5 ?k5 ?gcL ?LcL ?wcL ?wacL ?n0cL ?n1cL ?n2cL ?n3cL ?kkcL ?a6 ?l6 ?c6 ?k6 ?o6 ?gcF ?LcF ?wcF ?wacF ?n0cF ?n1cF ?n2cF ?n3cF ?kkcF ?a7 ?l7 ?c7 ?k7 ?o7 ?gcB ?LcB ?wcB ?wacB ?n0cB ?n1cB ?n2cB ?n3cB ?kkcB ?a8 ?l8 ?c8 ?k8 ?o8 ?gcS ?pgcS ?hdcS ?pocS ?sacS ?mkcS ?kccS ?na_leaves_cS ?na_findings_cS ?a9 ?i9 ?l9 ?c9 ?k9 ?gcCa ?pgcCa ?hdcCa ?pocCa ?sacCa ?mkcCa ?kccCa ?na_leaves_cCa ?na_findings_cCa ?na_gatherings_cCa ?a10 ?i10 ?l10 ?c10 ?k10 ?gcR ?pgcR ?hdcR ?pocR ?sacR ?mkcR ?kccR ?na_text_cR ?na_of_book_cR ?na_place_cR ?a11 ?i11 ?l11 ?c11 ?k11 ?a12 ?i12 ?l12 ?c12 ?k12 ?a13 ?i13 ?l13 ?c13 ?k13 ?a14 ?i14 ?l14 ?c14 ?k14 ?a15 ?i15 ?l15 ?c15 ?k15 ?a16 ?i16 ?l16 ?c16 ?k16 ?a17 ?l17 ?c17 ?k17 ?a18 ?l18 ?c18 ?k18 ?a19 ?l19 ?c19 ?k19 ?a20 ?l20 ?c20 ?k20 ?a21 ?l21 ?c21 ?k21 ?a22 ?l22 ?c22 ?k22 ?a23 ?l23 ?c23 ?k23 ?a24 ?l24 ?c24 ?k24 ?a25 ?l25 ?c25 ?k25 ?a26 ?l26 ?c26 ?k26 ?a27 ?l27 ?c27 ?k27 ?a28 ?l28 ?c28 ?k28 ?a29 ?l29 ?c29 ?k29 ?a30 ?l30 ?c30 ?k30 ?a31 ?l31 ?c31 ?k31 ?a32 ?l32 ?c32 ?k32 ?a33 ?l33 ?c33 ?k33 ?a34 ?l34 ?c34 ?k34 ?a35 ?l35 ?c35 ?k35 ?a36 ?l36 ?c36 ?k36 ?ecL ?ecF ?ecB
    case qLINE_FEED => k_is
    case qBLANK => k_is
    case qBANG => k_is
    case qOPENING => k_is
    case qCLOSING => k_is
    case qSLASH => k_is
    case qZERO => k_is
    case qNINE => k_is
    case qLESS => k_is
    case qEQUAL => k_is
    case qGREATER => k_is
    case qCARET => k_is
    case qLETTER_A => k_is
    case qLETTER_B => k_is
    case qLETTER_H => k_is
    case qLETTER_O => k_is
    case qBAR => k_is
    case qTILDE => k_is
    case qMOST_BYTES => k_is
    case qMOST_LEAVES => k_is
    case qMOST_FINDINGS => k_is
    case qMOST_DIGITS => k_is
    case qTOO_LONG => k_is
    case qBOOK_AT_FAULT => k_is
    case qFINDINGS_AT_FAULT => k_is
    case qEND => k_is
    case z_enumerate => k_is
    case z_len => k_is
    case z_tuple => k_is
    case gcLy => k_is
    case pgcLy => k_is
    case hdcLy => k_is
    case pocLy => k_is
    case sacLy => k_is
    case mkcLy => k_is
    case kccLy => k_is
    case na_sides_in_order_cLy => k_is
    case na_side_places_cLy => k_is
    case na_gathering_numbers_cLy => k_is
    case na_partners_cLy => k_is
    case a1 => k_is
    case i1 => k_is
    case l1 => k_is
    case c1 => k_is
    case k1 => k_is
    case a2 => k_is
    case i2 => k_is
    case l2 => k_is
    case c2 => k_is
    case k2 => k_is
    case a3 => k_is
    case i3 => k_is
    case l3 => k_is
    case c3 => k_is
    case k3 => k_is
    case gcFi => k_is
    case pgcFi => k_is
    case hdcFi => k_is
    case pocFi => k_is
    case sacFi => k_is
    case mkcFi => k_is
    case kccFi => k_is
    case na_negated_cFi => k_is
    case na_sign_cFi => k_is
    case na_told_cFi => k_is
    case a4 => k_is
    case i4 => k_is
    case l4 => k_is
    case c4 => k_is
    case k4 => k_is
    case gcLL => k_is
    case pgcLL => k_is
    case hdcLL => k_is
    case pocLL => k_is
    case sacLL => k_is
    case mkcLL => k_is
    case kccLL => k_is
    case na_number_cLL => k_is
    case na_front_cLL => k_is
    case na_sign_cLL => k_is
    case a5 => k_is
    case i5 => k_is
    case l5 => k_is
    case c5 => k_is
    case k5 => k_is
    case gcL => k_is
    case LcL => k_is
    case wcL => k_is
    case wacL => rfl
    case n0cL => k_is
    case n1cL => k_is
    case n2cL => k_is
    case n3cL => k_is
    case kkcL => k_is
    case a6 => k_is
    case l6 => k_is
    case c6 => k_is
    case k6 => k_is
    case o6 => rfl
    case gcF => k_is
    case LcF => k_is
    case wcF => k_is
    case wacF => rfl
    case n0cF => k_is
    case n1cF => k_is
    case n2cF => k_is
    case n3cF => k_is
    case kkcF => k_is
    case a7 => k_is
    case l7 => k_is
    case c7 => k_is
    case k7 => k_is
    case o7 => rfl
    case gcB => k_is
    case LcB => k_is
    case wcB => k_is
    case wacB => rfl
    case n0cB => k_is
    case n1cB => k_is
    case n2cB => k_is
    case n3cB => k_is
    case kkcB => k_is
    case a8 => k_is
    case l8 => k_is
    case c8 => k_is
    case k8 => k_is
    case o8 => rfl
    case gcS => k_is
    case pgcS => k_is
    case hdcS => k_is
    case pocS => k_is
    case sacS => k_is
    case mkcS => k_is
    case kccS => k_is
    case na_leaves_cS => k_is
    case na_findings_cS => k_is
    case a9 => k_is
    case i9 => k_is
    case l9 => k_is
    case c9 => k_is
    case k9 => k_is
    case gcCa => k_is
    case pgcCa => k_is
    case hdcCa => k_is
    case pocCa => k_is
    case sacCa => k_is
    case mkcCa => k_is
    case kccCa => k_is
    case na_leaves_cCa => k_is
    case na_findings_cCa => k_is
    case na_gatherings_cCa => k_is
    case a10 => k_is
    case i10 => k_is
    case l10 => k_is
    case c10 => k_is
    case k10 => k_is
    case gcR => k_is
    case pgcR => k_is
    case hdcR => k_is
    case pocR => k_is
    case sacR => k_is
    case mkcR => k_is
    case kccR => k_is
    case na_text_cR => k_is
    case na_of_book_cR => k_is
    case na_place_cR => k_is
    case a11 => k_is
    case i11 => k_is
    case l11 => k_is
    case c11 => k_is
    case k11 => k_is
    case a12 => k_is
    case i12 => k_is
    case l12 => k_is
    case c12 => k_is
    case k12 => k_is
    case a13 => k_is
    case i13 => k_is
    case l13 => k_is
    case c13 => k_is
    case k13 => k_is
    case a14 => k_is
    case i14 => k_is
    case l14 => k_is
    case c14 => k_is
    case k14 => k_is
    case a15 => k_is
    case i15 => k_is
    case l15 => k_is
    case c15 => k_is
    case k15 => k_is
    case a16 => k_is
    case i16 => k_is
    case l16 => k_is
    case c16 => k_is
    case k16 => k_is
    case a17 => k_is
    case l17 => k_is
    case c17 => k_is
    case k17 => k_is
    case a18 => k_is
    case l18 => k_is
    case c18 => k_is
    case k18 => k_is
    case a19 => k_is
    case l19 => k_is
    case c19 => k_is
    case k19 => k_is
    case a20 => k_is
    case l20 => k_is
    case c20 => k_is
    case k20 => k_is
    case a21 => k_is
    case l21 => k_is
    case c21 => k_is
    case k21 => k_is
    case a22 => k_is
    case l22 => k_is
    case c22 => k_is
    case k22 => k_is
    case a23 => k_is
    case l23 => k_is
    case c23 => k_is
    case k23 => k_is
    case a24 => k_is
    case l24 => k_is
    case c24 => k_is
    case k24 => k_is
    case a25 => k_is
    case l25 => k_is
    case c25 => k_is
    case k25 => k_is
    case a26 => k_is
    case l26 => k_is
    case c26 => k_is
    case k26 => k_is
    case a27 => k_is
    case l27 => k_is
    case c27 => k_is
    case k27 => k_is
    case a28 => k_is
    case l28 => k_is
    case c28 => k_is
    case k28 => k_is
    case a29 => k_is
    case l29 => k_is
    case c29 => k_is
    case k29 => k_is
    case a30 => k_is
    case l30 => k_is
    case c30 => k_is
    case k30 => k_is
    case a31 => k_is
    case l31 => k_is
    case c31 => k_is
    case k31 => k_is
    case a32 => k_is
    case l32 => k_is
    case c32 => k_is
    case k32 => k_is
    case a33 => k_is
    case l33 => k_is
    case c33 => k_is
    case k33 => k_is
    case a34 => k_is
    case l34 => k_is
    case c34 => k_is
    case k34 => k_is
    case a35 => k_is
    case l35 => k_is
    case c35 => k_is
    case k35 => k_is
    case a36 => k_is
    case l36 => k_is
    case c36 => k_is
    case k36 => k_is
    case ecL => kts_exm
    case ecF => kts_exm
    case ecB => kts_exm
  case S =>
    intro K H xs a hO hwi hask hx
    cases hx with
    | cons h1 h2 =>
      cases h2 with
      | cons h3 h4 =>
        cases h4
        cases h1 with
        | lst hs ha =>
          cases h3 with
          | lst hs2 ha2 =>
            have e := L2.ints_dw a.1 _ ha
            subst e
            have e := L2.ints_dw a.2.1 _ ha2
            subst e
            have q : ((Codec.inLen 0 16384 a.1 && a.1.all (Codec.inInt 0 255)) && ((Codec.inLen 0 16384 a.2.1 && a.2.1.all (Codec.inInt 0 255)) && true)) = true := hwi
            rw [Bool.and_eq_true, Bool.and_eq_true, Bool.and_eq_true, Bool.and_eq_true, List.all_eq_true, List.all_eq_true] at q
            exact ⟨_, _, a.1, a.2.1, rfl, hs, (Codec.inNat_iff.mp q.1.1).2, fun z hz => Codec.inInt_iff.mp (q.1.2 z hz), hs2, (Codec.inNat_iff.mp q.2.1.1).2, fun z hz => Codec.inInt_iff.mp (q.2.1.2 z hz), fun H' p hp => .lst (L2.SqL.of hp) (L2.dw_ints _)⟩
end
