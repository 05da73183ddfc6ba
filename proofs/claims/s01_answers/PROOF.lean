import PyProof.Rows.All
import Wide.All
import OpenK.AllK
import Wide.FinOn
import PyProof.EqAt
import PyProof.EqKinds
import PyProof.TupleCall
import KE.BitLaws
import Open.SpecLaws
import KE.OsHead
import KE.OsGo
import PySem.Challenge.RW_typecase_s01_answers
section
set_option Elab.async false
set_option linter.all false
set_option maxRecDepth 100000
namespace L2
open PySem PySem.Spec PyProof.Rows
abbrev Key := Sum Int Str
def keyIs : Key → Value → Bool
  | .inl k, v => Value.isInt k v
  | .inr x, v => Value.isStrOf x v
def keyH (w : World) : Key → Int
  | .inl k => hashInt k
  | .inr x => hashStr w x
theorem keyIs_shape : ∀ {k : Key} {v : Value}, keyIs k v = true → (∃ i t, k = Sum.inl i ∧ v = Value.int i t) ∨ (∃ x t, k = Sum.inr x ∧ v = Value.str x t)
  | .inl i, v, h => by
    obtain ⟨t, e⟩ := Value.isInt_shape (k := i) (v := v) h
    exact .inl ⟨i, t, rfl, e⟩
  | .inr x, v, h => by
    obtain ⟨t, e⟩ := Value.isStrOf_shape (x := x) (v := v) h
    exact .inr ⟨x, t, rfl, e⟩
theorem key_ll (a b : Int) : decide ((Sum.inl a : Key) = Sum.inl b) = (a == b) := by
  by_cases e : a = b
  · subst e; simp
  · have h : ¬ (Sum.inl a : Key) = Sum.inl b := fun q => e (Sum.inl.inj q)
    rw [decide_eq_false h]
    exact (beq_eq_false_iff_ne.mpr e).symm
theorem key_rr (a b : Str) : decide ((Sum.inr a : Key) = Sum.inr b) = decide (a = b) := by
  by_cases e : a = b
  · subst e; simp
  · have h : ¬ (Sum.inr a : Key) = Sum.inr b := fun q => e (Sum.inr.inj q)
    rw [decide_eq_false h, decide_eq_false e]
theorem key_lr (a : Int) (b : Str) : decide ((Sum.inl a : Key) = Sum.inr b) = false := decide_eq_false (fun q => nomatch q)
theorem key_rl (a : Str) (b : Int) : decide ((Sum.inr a : Key) = Sum.inl b) = false := decide_eq_false (fun q => nomatch q)
def mixKind (prog : Program) (w : World) : PySem.KeyKind prog w Key where
  is := keyIs
  hash := keyH w
  inj := fun v a b ha hb => by
    rcases keyIs_shape ha with ⟨i, t, rfl, rfl⟩ | ⟨x, t, rfl, rfl⟩
    · rcases keyIs_shape hb with ⟨j, u, rfl, e⟩ | ⟨y, u, rfl, e⟩
      · injection e with e1 _; rw [e1]
      · exact nomatch e
    · rcases keyIs_shape hb with ⟨j, u, rfl, e⟩ | ⟨y, u, rfl, e⟩
      · exact nomatch e
      · injection e with e1 _; rw [e1]
  byValue := fun k v h => by
    rcases keyIs_shape h with ⟨i, t, rfl, rfl⟩ | ⟨x, t, rfl, rfl⟩ <;> rfl
  pyHash := fun hv h => by
    rcases keyIs_shape hv with ⟨i, t, rfl, rfl⟩ | ⟨x, t, rfl, rfl⟩
    · exact wpAny_pyHash_int h
    · exact wpAny_pyHash_str h
  eqBool := fun hu hv h => by
    rcases keyIs_shape hu with ⟨i, t, rfl, rfl⟩ | ⟨x, t, rfl, rfl⟩
    · rcases keyIs_shape hv with ⟨j, u, rfl, rfl⟩ | ⟨y, u, rfl, rfl⟩
      · rw [key_ll] at h; exact wpAny_eqBool_int h
      · rw [key_lr] at h; exact SeqAt.EqAt.int_str i t y u _ _ _ _ h
    · rcases keyIs_shape hv with ⟨j, u, rfl, rfl⟩ | ⟨y, u, rfl, rfl⟩
      · rw [key_rl] at h; exact SeqAt.EqAt.str_int x t j u _ _ _ _ h
      · rw [key_rr] at h; exact wpAny_eqBool_str h
  «strs» := fun k x t v h => by
    rcases keyIs_shape h with ⟨i, u, rfl, e⟩ | ⟨y, u, rfl, e⟩
    · exact nomatch e
    · injection e with e1 _
      subst e1
      cases v <;> rfl
end L2
namespace L2
open PySem PySem.Spec PyProof.Rows
inductive V where
  | non | bl (b : Bool) | int (i : Int) | str (x : Str) | byt (b : Array UInt8) | flt (b : UInt64) | ref (a : Addr) | ty (n : String)
  deriving DecidableEq
def RelV : V → Value → Prop
  | .non, u => u = Value.none
  | .bl b, u => u = Value.bool b
  | .int i, u => ∃ t, u = Value.int i t
  | .str x, u => ∃ t, u = Value.str x t
  | .byt b, u => ∃ t, u = Value.bytes b t
  | .flt b, u => ∃ t, u = Value.float b t
  | .ref a, u => u = Value.ref a
  | .ty n, u => u = Value.type n
abbrev Vals : List V → List Value → Prop := Paired RelV
theorem Vals.length {xs : List V} {us : List Value} (r : Vals xs us) : xs.length = us.length := Paired.length r
theorem Vals.get : ∀ {xs : List V} {us : List Value} {i : Nat} {x : V}, Vals xs us → xs[i]? = some x → ∃ u, us[i]? = some u ∧ RelV x u
  | _, _, _, _, .nil, e => by simp at e
  | _, _, 0, _, .cons r _, e => by simp at e; subst e; exact ⟨_, rfl, r⟩
  | _, _, i + 1, x, .cons _ t, e => by
    obtain ⟨u, h1, h2⟩ := Vals.get (i := i) (x := x) t (by simpa using e)
    exact ⟨u, by simpa using h1, h2⟩
theorem Vals.set {x : V} {u : Value} (r : RelV x u) : ∀ {xs : List V} {us : List Value} (i : Nat), Vals xs us → Vals (xs.set i x) (us.set i u)
  | _, _, _, .nil => .nil
  | _, _, 0, .cons _ t => .cons r t
  | _, _, i + 1, .cons q t => .cons q (Vals.set r i t)
theorem Vals.append : ∀ {xs ys : List V} {us ws : List Value}, Vals xs us → Vals ys ws → Vals (xs ++ ys) (us ++ ws)
  | _, _, _, _, .nil, s => s
  | _, _, _, _, .cons r t, s => .cons r (Vals.append t s)
theorem Vals.take : ∀ {xs : List V} {us : List Value} (n : Nat), Vals xs us → Vals (xs.take n) (us.take n)
  | _, _, 0, _ => .nil
  | _, _, _ + 1, .nil => .nil
  | _, _, n + 1, .cons r t => .cons r (Vals.take n t)
theorem Vals.drop : ∀ {xs : List V} {us : List Value} (n : Nat), Vals xs us → Vals (xs.drop n) (us.drop n)
  | _, _, 0, r => r
  | _, _, _ + 1, .nil => .nil
  | _, _, n + 1, .cons _ t => Vals.drop n t
def RelO : Option V → Option Value → Prop
  | some v, some u => RelV v u
  | none, none => True
  | _, _ => False
def KV {κ : Type} : List (κ × V) → List (κ × Value) → Prop := Paired fun (p : κ × V) (q : κ × Value) => p.1 = q.1 ∧ RelV p.2 q.2
def kV : Key → V
  | .inl i => .int i
  | .inr x => .str x
inductive HO where
  /-- a list -/
  | lst (xs : List V)
  /-- a tuple (never changes) -/
  | tup (xs : List V)
  /-- a dict whose keys are ints and texts; one whose keys are tuples of ints and texts (the empty one is both) -/
  | dK (kvs : List (Key × V)) | dT (kvs : List (List Key × V))
  /-- a set of ints: its members, its size -/
  | set (S : Int → Bool) (n : Nat)
  /-- an instance of the class at C, its dict at dx, its attributes -/
  | ins (C dx : Addr) (fs : List (Str × V))
  /-- the dict of the instance at x -/
  | own (x : Addr)
  /-- the dict of an exception -/
  | xd (fs : List (Str × V))
  /-- a bound method, f of x -/
  | met (f x : Addr)
  /-- a range object lo, lo + 1, .. below hi -/
  | rng (lo hi : Int)
  /-- a thing that is known to the object (the script; a dict while a loop walks it): read, never written while it is so -/
  | frz (o : Obj) (u : HO)
  /-- a code object's table -/
  | tbl (ps : Array Value)
  /-- any other thing, by what is true of its one object (a def of one's own: SetO a S n := HO.ext fun h => ..) -/
  | ext (φ : Heap → Prop)
abbrev Hp := Addr → Option HO
def upd (H : Hp) (a : Addr) (o : HO) : Hp := fun b => if b = a then some o else H b
theorem upd_same {H : Hp} {a : Addr} {o : HO} : upd H a o a = some o := by unfold upd; rw [if_pos rfl]
theorem upd_ne {H : Hp} {a b : Addr} {o : HO} (h : b ≠ a) : upd H a o b = H b := by unfold upd; rw [if_neg h]
theorem ne_of {H : Hp} {a b : Addr} {o u : HO} (h : H a = some o) (h' : H b = some u) (d : o ≠ u) : a ≠ b := by
  intro e; subst e; rw [h] at h'; exact d (Option.some.inj h')
theorem ne_of_none {H : Hp} {a b : Addr} {o : HO} (h : H a = some o) (h' : H b = none) : a ≠ b := by
  intro e; subst e; rw [h] at h'; cases h'
section
variable (P : Program) (w : World)
def ObjOk (H : Hp) (h : Heap) (a : Addr) : HO → Prop
  | .lst xs => xs.length ≤ sizeLine ∧ ∃ (its : List Value) (n : Nat), Vals xs its ∧ h.get? a = some { cls := .type "list", data := .seq its.toArray n }
  | .tup xs => xs.length ≤ sizeLine ∧ ∃ its : List Value, Vals xs its ∧ IsTup h a its.toArray
  | .dK kvs => kvs.length ≤ sizeLine ∧ (a == sysModules) = false ∧ ∃ vs, KV kvs vs ∧ h.DictOf (mixKind P w) a vs
  | .dT kvs => kvs.length ≤ sizeLine ∧ (a == sysModules) = false ∧ ∃ xs : List (List Key × Addr × Value),
      Paired (fun (p : List Key × V) (q : List Key × Addr × Value) => p.1 = q.1 ∧ H q.2.1 = some (.tup (p.1.map kV)) ∧ RelV p.2 q.2.2) kvs xs ∧
      ∃ o es ep, h.get? a = some o ∧ o.ExactDict ∧ o.data = .dict es ep ∧ es.toList = xs.map (entryOfKey (tupleKind (mixKind P w))) ∧ (xs.map (·.1)).Nodup
  | .set S n => h.SetOf (intKind P w) a S n
  | .ins C dx fs => H dx = some (.own a) ∧ fs.length ≤ 1000 ∧ dx ≠ a ∧ h.get? a = some (PySem.W.instObj C dx) ∧
      ∃ mA, h.Ns1 dx mA ∧ (∀ f, RelO (fs.lookup f) (mA f)) ∧ PySem.Within mA (fs.map (·.1))
  | .own _ => ∃ o, h.get? a = some o
  | .xd fs => ∃ mA, h.Ns1 a mA ∧ ∀ f, RelO (fs.lookup f) (mA f)
  | .rng lo hi => ∃ t u v, h.get? a = some { cls := .type "range", data := .fields #[.int lo t, .int hi u, .int 1 v] }
  | .frz o u => h.get? a = some o ∧ ObjOk H h a u
  | .tbl ps => h.get? a = some { cls := .none, data := .fields ps }
  | .met f x => h.get? a = some (PySem.W.methodObj (.ref f) (.ref x))
  | .ext φ => φ h ∧ (∃ o, h.get? a = some o) ∧ ∀ h1 h2 : Heap, φ h1 → (∀ o, h1.get? a = some o → h2.get? a = some o) → φ h2
def HOk (H : Hp) (h : Heap) : Prop := ∀ a o, H a = some o → ObjOk P w H h a o
end
section
variable {P : Program} {w : World} {H H' : Hp} {h h' : Heap} {a : Addr} {o : HO}
theorem ObjOk.lt (x : ObjOk P w H h a o) : a < h.objs.size := by
  cases o with
  | lst xs => obtain ⟨_, _, _, _, e⟩ := x; exact Heap.lt_size e
  | tup xs => obtain ⟨_, _, _, p⟩ := x; exact p.lt
  | dK kvs => obtain ⟨_, _, _, _, o, _, _, e, _⟩ := x; exact Heap.lt_size e
  | dT kvs => obtain ⟨_, _, _, _, o, _, _, e, _⟩ := x; exact Heap.lt_size e
  | set S n => obtain ⟨o, _, _, _, e, _⟩ := x; exact Heap.lt_size e
  | ins C dx fs => obtain ⟨_, _, _, e, _⟩ := x; exact Heap.lt_size e
  | own y => obtain ⟨_, e⟩ := x; exact Heap.lt_size e
  | xd fs => obtain ⟨_, ⟨_, _, _, e, _⟩, _⟩ := x; exact Heap.lt_size e
  | rng lo hi => obtain ⟨_, _, _, e⟩ := x; exact Heap.lt_size e
  | frz ob u => obtain ⟨e, _⟩ := x; exact Heap.lt_size e
  | tbl ps => exact Heap.lt_size (show h.get? a = some _ from x)
  | met f y => exact Heap.lt_size (show h.get? a = some _ from x)
  | ext φ => obtain ⟨_, ⟨_, e⟩, _⟩ := x; exact Heap.lt_size e
theorem Paired.mapP {α β : Type} {F G : α → β → Prop} : ∀ {l₁ : List α} {l₂ : List β}, Paired F l₁ l₂ → (∀ a b, F a b → G a b) → Paired G l₁ l₂
  | _, _, .nil, _ => .nil
  | _, _, .cons r t, f => .cons (f _ _ r) (Paired.mapP t f)
theorem ObjOk.stay (x : ObjOk P w H h a o) (k : ∀ b u, (b = a ∨ H b = some (.own a)) → h.get? b = some u → h'.get? b = some u)
    (ho : ∀ b, H b = some (.own a) → H' b = some (.own a)) (ht : ∀ b xs, H b = some (.tup xs) → H' b = some (.tup xs)) : ObjOk P w H' h' a o := by
  induction o with
  | lst xs => obtain ⟨z, its, n, r, e⟩ := x; exact ⟨z, its, n, r, k _ _ (.inl rfl) e⟩
  | tup xs => obtain ⟨z, its, r, ob, e, c⟩ := x; exact ⟨z, its, r, ob, k _ _ (.inl rfl) e, c⟩
  | dK kvs => obtain ⟨z, y, vs, r, ob, es, ep, e, c⟩ := x; exact ⟨z, y, vs, r, ob, es, ep, k _ _ (.inl rfl) e, c⟩
  | dT kvs =>
    obtain ⟨z, y, xs, r, ob, es, ep, e, c⟩ := x
    exact ⟨z, y, xs, Paired.mapP r fun p q z => ⟨z.1, ht _ _ z.2.1, z.2.2⟩, ob, es, ep, k _ _ (.inl rfl) e, c⟩
  | set S n => obtain ⟨ob, es, ep, t, e, c⟩ := x; exact ⟨ob, es, ep, t, k _ _ (.inl rfl) e, c⟩
  | ins C dx fs =>
    obtain ⟨d, z, ne, e, mA, ⟨od, es, ep, e2, c⟩, r⟩ := x
    exact ⟨ho _ d, z, ne, k _ _ (.inl rfl) e, mA, ⟨od, es, ep, k _ _ (.inr d) e2, c⟩, r⟩
  | own y => obtain ⟨ob, e⟩ := x; exact ⟨ob, k _ _ (.inl rfl) e⟩
  | xd fs => obtain ⟨mA, ⟨od, es, ep, e, c⟩, r⟩ := x; exact ⟨mA, ⟨od, es, ep, k _ _ (.inl rfl) e, c⟩, r⟩
  | rng lo hi => obtain ⟨t, u, v, e⟩ := x; exact ⟨t, u, v, k _ _ (.inl rfl) e⟩
  | frz ob u ih => obtain ⟨e, q⟩ := x; exact ⟨k _ _ (.inl rfl) e, ih q⟩
  | tbl ps =>
    have e : h.get? a = some { cls := .none, data := .fields ps } := x
    show h'.get? a = some { cls := .none, data := .fields ps }
    exact k a _ (.inl rfl) e
  | met f y =>
    have e : h.get? a = some (PySem.W.methodObj (.ref f) (.ref y)) := x
    show h'.get? a = some (PySem.W.methodObj (.ref f) (.ref y))
    exact k a _ (.inl rfl) e
  | ext φ => obtain ⟨p, ⟨o, e⟩, st⟩ := x; exact ⟨st _ _ p fun o q => k _ _ (.inl rfl) q, ⟨o, k _ _ (.inl rfl) e⟩, st⟩
theorem HOk.lt (x : HOk P w H h) (e : H a = some o) : a < h.objs.size := (x a o e).lt
theorem HOk.fresh (x : HOk P w H h) (e : h.objs.size ≤ a) : H a = none := by
  cases q : H a with
  | none => rfl
  | some u => exact absurd (Nat.lt_of_lt_of_le (x.lt q) e) (Nat.lt_irrefl _)
theorem HOk.kept (x : HOk P w H h) (k : ∀ b u, h.get? b = some u → h'.get? b = some u) : HOk P w H h' := fun a o e =>
  (x a o e).stay (fun b u _ q => k b u q) (fun _ q => q) fun _ _ q => q
theorem HOk.laid (x : HOk P w H h) (k : ∀ b u, h.get? b = some u → h'.get? b = some u) (hp : h.objs.size ≤ a) (new : ObjOk P w (upd H a o) h' a o) : HOk P w (upd H a o) h' := fun b u e => by
  have hn := x.fresh hp
  by_cases hb : b = a
  · subst hb; rw [upd_same] at e; cases e; exact new
  · rw [upd_ne hb] at e
    exact (x b u e).stay (fun c v _ q => k c v q) (fun c q => by rw [upd_ne (ne_of_none q hn)]; exact q) fun c xs q => by rw [upd_ne (ne_of_none q hn)]; exact q
end
def Rd (H : Hp) (a : Addr) (u : HO) : Prop := H a = some u ∨ ∃ o, H a = some (.frz o u)
theorem Rd.ok {P : Program} {w : World} {H : Hp} {h : Heap} {a : Addr} {u : HO} (r : Rd H a u) (x : HOk P w H h) : ObjOk P w H h a u := by
  rcases r with r | ⟨o, r⟩
  · exact x a u r
  · obtain ⟨_, q⟩ := x a _ r
    exact q
def Mut : Option HO → Prop
  | some (.lst _) => True
  | some (.dK _) => True
  | some (.dT _) => True
  | some (.set _ _) => True
  | some (.ins _ _ _) => True
  | some (.ext _) => True
  | _ => False
section
variable {P : Program} {w : World} {H : Hp} {h h' : Heap} {x e : Addr} {o' : HO}
theorem HOk.write (ok : HOk P w H h) (mu : Mut (H x)) (he : e = x ∨ H e = some (.own x)) (k : ∀ b u, b ≠ e → h.get? b = some u → h'.get? b = some u) (heo : ∃ u, h'.get? e = some u)
    (new : ObjOk P w (upd H x o') h' x o') : HOk P w (upd H x o') h' := fun b u q => by
  have nown : ∀ c y, H c = some (.own y) → c ≠ x := fun c y r z => by subst z; rw [r] at mu; exact mu
  have ntup : ∀ c xs, H c = some (.tup xs) → c ≠ x := fun c xs r z => by subst z; rw [r] at mu; exact mu
  by_cases hb : b = x
  · subst hb; rw [upd_same] at q; cases q; exact new
  · rw [upd_ne hb] at q
    by_cases hbe : b = e
    · have q' : H b = some (.own x) := by
        rcases he with z | z
        · exact absurd (hbe.trans z) hb
        · rw [hbe]; exact z
      rw [q] at q'; cases q'
      obtain ⟨v, hv⟩ := heo
      exact ⟨v, by rw [hbe]; exact hv⟩
    · refine (ok b u q).stay (fun c v hc r => k c v ?_ r) (fun c r => by rw [upd_ne (nown c b r)]; exact r) fun c xs r => by rw [upd_ne (ntup c xs r)]; exact r
      rcases hc with rfl | hc
      · exact hbe
      · rintro rfl
        rcases he with z | z
        · exact nown c b hc z
        · rw [hc] at z; cases z; exact hb rfl
end
structure Un (fs ex : List Addr) (H H' : Hp) (h h' : Heap) : Prop where
  keep : ∀ b o, h.get? b = some o → H b = none → b ∉ fs → b ∉ ex → h'.get? b = some o
  slot : ∀ b o, h.get? b = some o → H b = none → b ∈ fs → b ∉ ex → ∃ sl, h'.get? b = some { o with slots := sl }
  free : ∀ b o, h.get? b = some o → H b = none → b ∉ ex → H' b = none
  there : ∀ b o, h.get? b = some o → b ∉ ex → ∃ o', h'.get? b = some o'
  tups : ∀ b xs, H b = some (.tup xs) → H' b = some (.tup xs)
  frzs : ∀ b o u, H b = some (.frz o u) → H' b = some (.frz o u)
  tbls : ∀ b ps, H b = some (.tbl ps) → ∃ more, H' b = some (.tbl (ps ++ more))
section
variable {fs fs' ex ex' : List Addr} {H H1 H2 : Hp} {h h1 h2 h' : Heap} {a x e : Addr} {o : HO}
theorem Un.any (u : Un fs ex H H1 h h1) {b : Addr} {ob : Obj} (q : h.get? b = some ob) (n : H b = none) (hx : b ∉ ex) : ∃ sl, h1.get? b = some { ob with slots := sl } := by
  by_cases hb : b ∈ fs
  · exact u.slot b ob q n hb hx
  · exact ⟨ob.slots, u.keep b ob q n hb hx⟩
theorem Un.kept (k : ∀ b u, h.get? b = some u → h'.get? b = some u) : Un fs ex H H h h' :=
  ⟨fun b ob q _ _ _ => k b ob q, fun b ob q _ _ _ => ⟨ob.slots, k b ob q⟩, fun _ _ _ n _ => n, fun b ob q _ => ⟨ob, k b ob q⟩, fun _ _ q => q, fun _ _ _ q => q, fun _ ps q => ⟨#[], by rw [q]; simp⟩⟩
theorem Un.refl : Un fs ex H H h h := Un.kept fun _ _ q => q
theorem Un.laid (k : ∀ b u, h.get? b = some u → h'.get? b = some u) (hp : h.objs.size ≤ a) (hn : H a = none) : Un fs ex H (upd H a o) h h' where
  keep := fun b u q _ _ _ => k b u q
  slot := fun b u q _ _ _ => ⟨u.slots, k b u q⟩
  free := fun b u q n _ => by rw [upd_ne (Nat.ne_of_lt (Nat.lt_of_lt_of_le (Heap.lt_size q) hp))]; exact n
  there := fun b u q _ => ⟨u, k b u q⟩
  tups := fun b xs q => by rw [upd_ne (ne_of_none q hn)]; exact q
  frzs := fun b u xs q => by rw [upd_ne (ne_of_none q hn)]; exact q
  tbls := fun b ps q => ⟨#[], by rw [upd_ne (ne_of_none q hn), q]; simp⟩
theorem Un.write (mu : Mut (H x)) (he : e = x ∨ H e = some (.own x)) (k : ∀ b u, b ≠ e → h.get? b = some u → h'.get? b = some u) (heo : ∃ u, h'.get? e = some u) : Un fs ex H (upd H x o) h h' := by
  have hx : ∀ b, H b = none → b ≠ x := fun b n z => by subst z; rw [n] at mu; exact mu
  have hb : ∀ b, H b = none → b ≠ e := fun b n z => by
    subst z
    rcases he with r | r
    · exact hx b n r
    · rw [n] at r; cases r
  have hm : ∀ b u, H b = some u → ¬ Mut (some u) → b ≠ x := fun b u q nm z => by subst z; rw [q] at mu; exact nm mu
  refine ⟨fun b u q n _ _ => k b u (hb b n) q, fun b u q n _ _ => ⟨u.slots, k b u (hb b n) q⟩, fun b u q n _ => by rw [upd_ne (hx b n)]; exact n, fun b u q _ => ?_,
    fun b xs q => by rw [upd_ne (hm b _ q fun z => z)]; exact q, fun b u xs q => by rw [upd_ne (hm b _ q fun z => z)]; exact q, fun b ps q => ⟨#[], by rw [upd_ne (hm b _ q fun z => z), q]; simp⟩⟩
  by_cases hbe : b = e
  · subst hbe; exact heo
  · exact ⟨u, k b u hbe q⟩
end
def trk (h : Heap) (H : Hp) : List Addr := (List.range h.objs.size).filter fun a => (H a).isSome
def hidT (h : Heap) (H : Hp) : Heap := PySem.W.hideAll h (trk h H)
theorem hidT_size (h : Heap) (H : Hp) : (hidT h H).objs.size = h.objs.size := PySem.W.hideAll_size _ _
theorem hidT_get {h : Heap} {H : Hp} {b : Addr} {o : Obj} (e : h.get? b = some o) (n : H b = none) : (hidT h H).get? b = some o :=
  PySem.W.hideAll_get _ e fun hm => by
    have q : (H b).isSome = true := (List.mem_filter.mp hm).2
    rw [n] at q; simp at q
theorem of_hidT {h : Heap} {H : Hp} {b : Addr} {o : Obj} (e : (hidT h H).get? b = some o) : h.get? b = some o ∧ H b = none := by
  have e' : h.get? b = some o := PySem.W.of_hideAll (trk h H) e
  refine ⟨e', ?_⟩
  cases q : H b with
  | none => rfl
  | some x =>
    have hm : b ∈ trk h H := List.mem_filter.mpr ⟨List.mem_range.mpr (Heap.lt_size e'), by simp [q]⟩
    have z : (hidT h H).get? b = none := PySem.W.hideAll_none (trk h H) hm
    rw [z] at e; cases e
end L2
namespace L2
open PySem PySem.Spec PyProof.Rows
structure Mod (K : PySem.W.Frag) (mg : Str → Option Value) (base : Heap) : Prop where
  kin : K.In base
  glob : base.Ns mainGlobals mg
  blt : ∃ mb, base.Ns builtinsNs mb ∧ ∀ x : Str, x ≠ "__name__" → mb x = bootBuiltins x
  nolimit : base.NoLimit
structure Cx where
  prog : Program
  w : World
  K : PySem.W.Frag
  mg : Str → Option Value
  base : Heap
  A : Around
  N : List Str
  s_0 : Shared
  H_0 : Hp
  env : Env
  outer : List Env
  stack : List Env
  ex : List Addr
  fn : Str → Bool
  calm : Bool
  pn : List (Addr × Obj)
  xe : Value → Shared → Prop
def frs (l : List Env) : List Addr := l.filterMap (·.frame)
abbrev Cx.fs (X : Cx) : List Addr := frs X.outer
def Vis (sc : Scope) (x : Str) : Prop := sc.names.lookup x = some .local ∨ sc.names.lookup x = some .cell ∨ sc.names.lookup x = some .free
def Loc (sc : Scope) (x : Str) : Prop := sc.names.lookup x = some .local ∨ sc.names.lookup x = some .cell
def Look (env : Env) (h : Heap) (m : Str → Option Value) (x : Str) (u : Value) : Prop :=
  (env.kindOf x = some .local ∧ m x = some u) ∨ ((env.kindOf x = some .cell ∨ env.kindOf x = some .free) ∧ ∃ c, env.cells.lookup x = some c ∧ h.IsCell c (some u))
structure Cx.Ok (X : Cx) : Prop where
  mod : Mod X.K X.mg X.base
  kind : X.env.scope.kind = .function
  glob : X.env.globals = mainGlobals
  blt : X.env.builtins = builtinsNs
  above : X.s_0.heap.objs.size ≤ X.env.locals
  inj : ∀ x y c, X.env.cells.lookup x = some c → X.env.cells.lookup y = some c → x = y
  has : ∀ x, (X.env.kindOf x = some .cell ∨ X.env.kindOf x = some .free) → ∃ c, X.env.cells.lookup x = some c
  cab : ∀ x c, X.fn x = true → X.env.cells.lookup x = some c → X.s_0.heap.objs.size ≤ c
  hd : X.calm = true → X.A.handled = none
  frames : X.A.frames = some X.stack
  stk : X.stack = X.outer ∨ (X.stack = X.env :: X.outer ∧ X.env.frame = some X.env.locals)
  exf : ∀ b ∈ X.ex, b ≠ X.env.locals ∧ ∀ x c, X.env.cells.lookup x = some c → c ≠ b
  bs : ∀ b o, X.base.get? b = some o → X.s_0.heap.get? b = some o ∧ X.H_0 b = none
  bsz : X.base.objs.size ≤ X.s_0.heap.objs.size
  noex : ∀ b o, X.base.get? b = some o → b ∉ X.ex
  exfs : ∀ b ∈ X.ex, b ∉ X.fs
  funs : X.s_0.heap.FunFrames X.base X.outer
  frf : ∀ b ∈ X.fs, X.H_0 b = none
structure Inv (X : Cx) (pins : List (Addr × Obj)) (σ : List (Option V)) (H : Hp) (s : Shared) : Prop where
  ok : X.Ok
  os : s.os = X.s_0.os
  bare : AllBare s.gens
  base : Un X.fs X.ex X.H_0 H X.s_0.heap s.heap
  loc : ∃ m, s.heap.Ns X.env.locals m ∧ ∀ (i : Nat) (x : Str) (v : V), X.N[i]? = some x → σ[i]? = some (some v) → Vis X.env.scope x → ∃ u, RelV v u ∧ Look X.env s.heap m x u
  cell : ∀ x c, X.env.cells.lookup x = some c → ∃ v, s.heap.IsCell c v
  free : H X.env.locals = none
  freeC : ∀ x c, X.env.cells.lookup x = some c → H c = none
  pin : ∀ p ∈ X.pn ++ pins, s.heap.get? p.1 = some p.2 ∧ H p.1 = none ∧ p.1 ≠ X.env.locals ∧ p.1 ∉ X.fs ∧ ∀ v, p.2.data ≠ .cell v
  hok : HOk X.prog X.w H s.heap
  len : σ.length = X.N.length
section
variable {X : Cx} {pins : List (Addr × Obj)} {σ : List (Option V)} {H H' : Hp} {s : Shared} {h' : Heap}
theorem Cx.Ok.nofr (ok : X.Ok) {b : Addr} {o : Obj} (e : X.base.get? b = some o) : b ∉ X.fs := fun hb => by
  have := (ok.funs.mem hb).1
  rw [e] at this; cases this
theorem Inv.bs (I : Inv X pins σ H s) : ∀ b o, X.base.get? b = some o → s.heap.get? b = some o ∧ H b = none := fun b o e =>
  ⟨I.base.keep b o (I.ok.bs b o e).1 (I.ok.bs b o e).2 (I.ok.nofr e) (I.ok.noex b o e), I.base.free b o (I.ok.bs b o e).1 (I.ok.bs b o e).2 (I.ok.noex b o e)⟩
theorem Inv.bk (I : Inv X pins σ H s) : ∀ b o, X.base.get? b = some o → s.heap.get? b = some o := fun b o e => (I.bs b o e).1
theorem Inv.mod (I : Inv X pins σ H s) : Mod X.K X.mg X.base := I.ok.mod
theorem Inv.kIn (I : Inv X pins σ H s) : X.K.In s.heap := I.ok.mod.kin.keeps I.bk
theorem Inv.fr (I : Inv X pins σ H s) : ∃ m, Fr X.base X.env.locals s.heap m :=
  let ⟨m, hn, _⟩ := I.loc
  ⟨m, hn, I.bk, Nat.le_trans I.ok.bsz I.ok.above⟩
theorem Inv.lt (I : Inv X pins σ H s) : X.env.locals < s.heap.objs.size := let ⟨_, hn, _⟩ := I.loc; hn.lt
theorem Inv.sz (I : Inv X pins σ H s) : X.s_0.heap.objs.size ≤ s.heap.objs.size := Nat.le_trans I.ok.above (Nat.le_of_lt I.lt)
theorem Inv.nofs (I : Inv X pins σ H s) {a : Addr} (h : s.heap.objs.size ≤ a) : a ∉ X.fs := fun hb => by
  obtain ⟨_, o, ho, _⟩ := I.ok.funs.mem hb
  exact absurd (Nat.lt_of_lt_of_le (Heap.lt_size ho) (Nat.le_trans I.sz h)) (Nat.lt_irrefl _)
theorem Inv.cne (I : Inv X pins σ H s) : ∀ x c, X.env.cells.lookup x = some c → c ≠ X.env.locals := fun x c e z => by
  obtain ⟨v, o, ho, hd⟩ := I.cell x c e
  obtain ⟨m, ⟨o', es, ep, ho', hd', _⟩, _⟩ := I.loc
  rw [z, ho'] at ho; cases ho; rw [hd'] at hd; cases hd
theorem Inv.funs (I : Inv X pins σ H s) : s.heap.FunFrames X.base X.outer := by
  have all : ∀ (l : List Env), (∀ b ∈ frs l, b ∈ X.fs) → X.s_0.heap.FunFrames X.base l → s.heap.FunFrames X.base l := by
    intro l
    induction l with
    | nil => intro _ _; trivial
    | cons env r ih =>
      intro hs hl
      obtain ⟨hk, ⟨L, o, hf, hn, ho, hd⟩, hr⟩ := hl
      have hL : L ∈ X.fs := hs L (by unfold frs; rw [List.filterMap_cons, hf]; exact List.mem_cons_self)
      obtain ⟨sl, e⟩ := I.base.slot L o ho (I.ok.frf L hL) hL fun z => I.ok.exfs L z hL
      exact ⟨hk, ⟨L, _, hf, hn, e, hd⟩, ih (fun b hb => hs b (by unfold frs; rw [List.filterMap_cons, hf]; exact List.mem_cons_of_mem _ hb)) hr⟩
  exact all X.outer (fun _ hb => hb) I.ok.funs
theorem Inv.stack (I : Inv X pins σ H s) : s.heap.FunFrames X.base X.stack := by
  rcases I.ok.stk with e | ⟨e, hf⟩
  · rw [e]; exact I.funs
  · rw [e]
    obtain ⟨m, hn, _⟩ := I.loc
    refine .cons (by rw [I.ok.kind]; decide) hf hn ?_ I.funs
    exact Heap.get?_none_of_le (Nat.le_trans I.ok.bsz I.ok.above)
theorem Inv.stkSub (I : Inv X pins σ H s) : ∀ b ∈ frs X.stack, b ∈ X.env.locals :: X.fs := fun b hb => by
  rcases I.ok.stk with e | ⟨e, hf⟩
  · rw [e] at hb; exact List.mem_cons_of_mem _ hb
  · rw [e] at hb
    unfold frs at hb
    rw [List.filterMap_cons, hf] at hb
    exact hb
theorem Inv.stkFree (I : Inv X pins σ H s) : ∀ b ∈ frs X.stack, H b = none := fun b hb => by
  rcases List.mem_cons.mp (I.stkSub b hb) with e | hb
  · rw [e]; exact I.free
  · obtain ⟨_, o, ho, _⟩ := I.ok.funs.mem hb
    exact I.base.free b o ho (I.ok.frf b hb) fun z => I.ok.exfs b z hb
theorem Inv.step {g' : Array GenState} {t' : Nat} {d' : Drawn} {ch : List Addr} (I : Inv X pins σ H s)
    (hch : ∀ b ∈ ch, (b ∈ X.ex ∨ X.s_0.heap.objs.size ≤ b) ∧ b ≠ X.env.locals ∧ (∀ x c, X.env.cells.lookup x = some c → c ≠ b) ∧ ∀ p ∈ X.pn ++ pins, p.1 ≠ b)
    (keep : ∀ b o, b ≠ X.env.locals → b ∉ X.fs → b ∉ ch → s.heap.get? b = some o → H b = none → h'.get? b = some o)
    (slot : ∀ b o, b ≠ X.env.locals → b ∈ X.fs → b ∉ ch → s.heap.get? b = some o → H b = none → ∃ sl, h'.get? b = some { o with slots := sl }) (free : ∀ b o, b ∉ ch → s.heap.get? b = some o → H b = none → H' b = none)
    (there : ∀ b o, b ∉ ch → s.heap.get? b = some o → ∃ o', h'.get? b = some o')
    (tups : ∀ b xs, H b = some (.tup xs) → H' b = some (.tup xs)) (frzs : ∀ b o u, H b = some (.frz o u) → H' b = some (.frz o u)) (tbls : ∀ b ps, H b = some (.tbl ps) → ∃ more, H' b = some (.tbl (ps ++ more)))
    (ns : ∀ m, s.heap.Ns X.env.locals m → h'.Ns X.env.locals m) (hok : HOk X.prog X.w H' h') (hg : AllBare g') :
    Inv X pins σ H' { s with heap := h', gens := g', drawn := d', toks := t' } := by
  have neL : ∀ b o, X.s_0.heap.get? b = some o → b ≠ X.env.locals := fun b o e => Nat.ne_of_lt (Nat.lt_of_lt_of_le (Heap.lt_size e) I.ok.above)
  have neC : ∀ b o, X.s_0.heap.get? b = some o → b ∉ X.ex → b ∉ ch := fun b o e hx hb => by
    rcases (hch b hb).1 with z | z
    · exact hx z
    · exact absurd (Nat.lt_of_lt_of_le (Heap.lt_size e) z) (Nat.lt_irrefl _)
  have cellK : ∀ x c, X.env.cells.lookup x = some c → ∀ v, s.heap.IsCell c v → h'.IsCell c v := fun x c e v ⟨o, ho, hd⟩ => by
    have nch : c ∉ ch := fun z => (hch c z).2.2.1 x c e rfl
    by_cases hc : c ∈ X.fs
    · obtain ⟨sl, q⟩ := slot c o (I.cne x c e) hc nch ho (I.freeC x c e)
      exact ⟨_, q, hd⟩
    · exact ⟨o, keep c o (I.cne x c e) hc nch ho (I.freeC x c e), hd⟩
  refine ⟨I.ok, I.os, hg, ⟨fun b o e n hb hx => ?_, fun b o e n hb hx => ?_, fun b o e n hx => ?_, fun b o e hx => ?_, fun b xs e => tups b xs (I.base.tups b xs e), fun b o xs e => frzs b o xs (I.base.frzs b o xs e), fun b ps e => ?_⟩, ?_, fun x c e => ?_, ?_, fun x c e => ?_, fun p hp => ?_, hok, I.len⟩
  · exact keep b o (neL b o e) hb (neC b o e hx) (I.base.keep b o e n hb hx) (I.base.free b o e n hx)
  · obtain ⟨sl, e1⟩ := I.base.slot b o e n hb hx
    obtain ⟨sl', e2⟩ := slot b _ (neL b o e) hb (neC b o e hx) e1 (I.base.free b o e n hx)
    exact ⟨sl', e2⟩
  · obtain ⟨o', e1⟩ := I.base.there b o e hx
    exact free b o' (neC b o e hx) e1 (I.base.free b o e n hx)
  · obtain ⟨o', e1⟩ := I.base.there b o e hx
    exact there b o' (neC b o e hx) e1
  · obtain ⟨m1, e1⟩ := I.base.tbls b ps e
    obtain ⟨m2, e2⟩ := tbls b _ e1
    exact ⟨m1 ++ m2, by rw [e2, Array.append_assoc]⟩
  · obtain ⟨m, hn, hl⟩ := I.loc
    refine ⟨m, ns m hn, fun i x v e1 e2 e3 => ?_⟩
    obtain ⟨u, r, l⟩ := hl i x v e1 e2 e3
    refine ⟨u, r, ?_⟩
    rcases l with l | ⟨k, c, e, z⟩
    · exact .inl l
    · exact .inr ⟨k, c, e, cellK x c e _ z⟩
  · obtain ⟨v, z⟩ := I.cell x c e
    exact ⟨v, cellK x c e v z⟩
  · obtain ⟨m, ⟨o, _, _, ho, _⟩, _⟩ := I.loc
    exact free _ o (fun z => (hch _ z).2.1 rfl) ho I.free
  · obtain ⟨v, o, ho, hd⟩ := I.cell x c e
    exact free c o (fun z => (hch c z).2.2.1 x c e rfl) ho (I.freeC x c e)
  · obtain ⟨e, n, ne, nf, d⟩ := I.pin p hp
    have nch : p.1 ∉ ch := fun z => (hch p.1 z).2.2.2 p hp rfl
    exact ⟨keep p.1 p.2 ne nf nch e n, free p.1 p.2 nch e n, ne, nf, d⟩
theorem Inv.un {t' : Nat} (I : Inv X pins σ H s) (u : Un X.fs [] H H' s.heap h') (hok : HOk X.prog X.w H' h') : Inv X pins σ H' { s with heap := h', toks := t' } := by
  obtain ⟨m, ⟨o, es, ep, ho, r⟩, _⟩ := id I.loc
  obtain ⟨sl, hL⟩ := u.any ho I.free (by simp)
  exact I.step (g' := s.gens) (d' := s.drawn) (ch := []) (fun _ z => nomatch z) (fun b o _ hb _ e n => u.keep b o e n hb (by simp)) (fun b o _ hb _ e n => u.slot b o e n hb (by simp)) (fun b o _ e n => u.free b o e n (by simp)) (fun b o _ e => u.there b o e (by simp)) u.tups u.frzs u.tbls (fun m' hm => by
    obtain ⟨o', es', ep', ho', r'⟩ := hm
    rw [ho] at ho'; cases ho'
    exact ⟨_, es', ep', hL, r'⟩) hok I.bare
theorem Inv.call {g' : Array GenState} {t' : Nat} {d' : Drawn} {ch : List Addr} (I : Inv X pins σ H s) (u : Un (frs X.stack) ch H H' s.heap h') (hok : HOk X.prog X.w H' h') (hg : AllBare g')
    (hch : ∀ b ∈ ch, (b ∈ X.ex ∨ X.s_0.heap.objs.size ≤ b) ∧ b ≠ X.env.locals ∧ (∀ x c, X.env.cells.lookup x = some c → c ≠ b) ∧ ∀ p ∈ X.pn ++ pins, p.1 ≠ b) :
    Inv X pins σ H' { s with heap := h', gens := g', drawn := d', toks := t' } := by
  obtain ⟨m, ⟨o, es, ep, ho, r⟩, _⟩ := id I.loc
  obtain ⟨sl, hL⟩ := u.any ho I.free fun z => (hch _ z).2.1 rfl
  exact I.step (ch := ch) hch (fun b o hL hb hc e n => u.keep b o e n (fun z => (List.mem_cons.mp (I.stkSub b z)).elim hL hb) hc) (fun b o _ _ hc e n => u.any e n hc) (fun b o hc e n => u.free b o e n hc) (fun b o hc e => u.there b o e hc) u.tups u.frzs u.tbls (fun m' hm => by
    obtain ⟨o', es', ep', ho', r'⟩ := hm
    rw [ho] at ho'; cases ho'
    exact ⟨_, es', ep', hL, r'⟩) hok hg
theorem Inv.turned {t' : Nat} {it : Addr} (I : Inv X pins σ H s) (k : ∀ b o, b ≠ it → s.heap.get? b = some o → h'.get? b = some o) (hn : H it = none) (hL : it ≠ X.env.locals)
    (h1 : it ∈ X.ex ∨ X.s_0.heap.objs.size ≤ it) (h2 : ∀ x c, X.env.cells.lookup x = some c → c ≠ it) (h3 : ∀ p ∈ X.pn ++ pins, p.1 ≠ it) : Inv X pins σ H { s with heap := h', toks := t' } := by
  have nit : ∀ b u, H b = some u → b ≠ it := fun b u e z => by rw [z, hn] at e; cases e
  refine I.step (g' := s.gens) (d' := s.drawn) (ch := [it]) (fun b hb => ?_) (fun b o _ _ hc e _ => k b o (fun z => hc (by simp [z])) e) (fun b o _ _ hc e _ => ⟨o.slots, k b o (fun z => hc (by simp [z])) e⟩) (fun _ _ _ _ n => n)
    (fun b o hc e => ⟨o, k b o (fun z => hc (by simp [z])) e⟩) (fun _ _ e => e) (fun _ _ _ e => e) (fun b ps e => ⟨#[], by rw [e]; simp⟩) (fun m hm => ?_) (fun b u e => ?_) I.bare
  · have e : b = it := by simpa using hb
    subst e
    exact ⟨h1, hL, h2, h3⟩
  · obtain ⟨o, es, ep, ho, r⟩ := hm
    exact ⟨o, es, ep, k _ o (Ne.symm hL) ho, r⟩
  · refine (I.hok b u e).stay (fun c v hc q => k c v ?_ q) (fun _ q => q) fun _ _ q => q
    rcases hc with z | z
    · rw [z]; exact nit b u e
    · exact nit c _ z
theorem Inv.tok (I : Inv X pins σ H s) (t : Nat) : Inv X pins σ H { s with toks := t } := I.un (h' := s.heap) (t' := t) Un.refl I.hok
theorem Inv.kept {t' : Nat} (I : Inv X pins σ H s) (k : ∀ b u, s.heap.get? b = some u → h'.get? b = some u) : Inv X pins σ H { s with heap := h', toks := t' } := I.un (Un.kept k) (I.hok.kept k)
theorem Inv.laid {a : Addr} {o : HO} {t' : Nat} (I : Inv X pins σ H s) (k : ∀ b u, s.heap.get? b = some u → h'.get? b = some u) (hp : s.heap.objs.size ≤ a) (new : ObjOk X.prog X.w (upd H a o) h' a o) :
    Inv X pins σ (upd H a o) { s with heap := h', toks := t' } := I.un (Un.laid k hp (I.hok.fresh hp)) (I.hok.laid k hp new)
theorem Inv.write {x e : Addr} {o : HO} {t' : Nat} (I : Inv X pins σ H s) (mu : Mut (H x)) (he : e = x ∨ H e = some (.own x)) (k : ∀ b u, b ≠ e → s.heap.get? b = some u → h'.get? b = some u) (heo : ∃ u, h'.get? e = some u)
    (new : ObjOk X.prog X.w (upd H x o) h' x o) : Inv X pins σ (upd H x o) { s with heap := h', toks := t' } := I.un (Un.write mu he k heo) (I.hok.write mu he k heo new)
theorem Inv.weak {σ' : List (Option V)} (I : Inv X pins σ H s) (hl : σ'.length = σ.length) (w : ∀ (i : Nat) v, σ'[i]? = some (some v) → σ[i]? = some (some v)) : Inv X pins σ' H s :=
  ⟨I.ok, I.os, I.bare, I.base, let ⟨m, hn, hl'⟩ := I.loc; ⟨m, hn, fun i x v e1 e2 e3 => hl' i x v e1 (w i v e2) e3⟩, I.cell, I.free, I.freeC, I.pin, I.hok, hl.trans I.len⟩
theorem Inv.pins_of {pins' : List (Addr × Obj)} (I : Inv X pins σ H s) (h : ∀ p ∈ pins', s.heap.get? p.1 = some p.2 ∧ H p.1 = none ∧ p.1 ≠ X.env.locals ∧ p.1 ∉ X.fs ∧ ∀ v, p.2.data ≠ .cell v) : Inv X pins' σ H s :=
  ⟨I.ok, I.os, I.bare, I.base, I.loc, I.cell, I.free, I.freeC, fun p hp => (List.mem_append.mp hp).elim (fun z => I.pin p (List.mem_append_left _ z)) (h p), I.hok, I.len⟩
theorem nodup_ix {N : List Str} (hN : N.Nodup) {i j : Nat} {x : Str} (a : N[i]? = some x) (b : N[j]? = some x) : i = j := by
  obtain ⟨h1, e1⟩ := List.getElem?_eq_some_iff.mp a
  obtain ⟨h2, e2⟩ := List.getElem?_eq_some_iff.mp b
  exact (List.getElem_inj hN).mp (e1.trans e2.symm)
theorem store_ok2 {M : Model} {A : Around} {E : Value → Shared → Prop} {i : Nat} {x : Str} {v : V} {u : Value} {Q : Unit → Shared → Prop} (I : Inv X pins σ H s) (hN : X.N.Nodup) (hi : X.N[i]? = some x) (hx : Loc X.env.scope x) (r : RelV v u)
    (h : ∀ s', Inv X pins (σ.set i (some v)) H s' → (∃ a, Heap.SameBut a s.heap s'.heap ∧ (a = X.env.locals ∨ X.env.cells.lookup x = some a)) → Q () s') (hf : X.fn x = true ∨ X.env.scope.names.lookup x = some .local := by first | exact .inl rfl | exact .inr rfl | assumption) : wpAny M A (storeName X.env x u) Q E s := by
  obtain ⟨m, hn, hl⟩ := id I.loc
  have hcls : (X.env.scope.kind == .class || (X.env.scope.kind == .module && X.env.locals != X.env.globals)) = false := by rw [I.ok.kind]; rfl
  have hiσ : i < σ.length := by rw [I.len]; exact (List.getElem?_eq_some_iff.mp hi).1
  have cne := I.cne
  have tracked : ∀ {a : Addr} {h' : Heap}, (∃ o, s.heap.get? a = some o ∧ H a = none) → Heap.SameBut a s.heap h' → HOk X.prog X.w H h' := fun {a h'} ha hs b ob e => by
    obtain ⟨_, _, hfree⟩ := ha
    refine (I.hok b ob e).stay (fun c w' hc q => (hs.2 c ?_).trans q) (fun _ q => q) fun _ _ q => q
    rintro rfl
    rcases hc with rfl | hc
    · rw [hfree] at e; cases e
    · rw [hfree] at hc; cases hc
  rcases hx with hk | hk
  · refine wpAny_storeName_local hk hn (fun h' hn' hs => ?_) hcls
    obtain ⟨oL, _, _, hoL, _⟩ := id hn
    refine h _ ⟨I.ok, I.os, I.bare, ⟨fun b o e n hb hx => ?_, fun b o e n hb hx => ?_, I.base.free, fun b o e hx => ?_, I.base.tups, I.base.frzs, I.base.tbls⟩, ⟨_, hn', fun j y v' e1 e2 e3 => ?_⟩, fun y c e => ?_, I.free, I.freeC, fun p hp => ?_, tracked ⟨oL, hoL, I.free⟩ hs, by simpa using I.len⟩ ⟨_, hs, .inl rfl⟩
    · exact (hs.2 b (Nat.ne_of_lt (Nat.lt_of_lt_of_le (Heap.lt_size e) I.ok.above))).trans (I.base.keep b o e n hb hx)
    · obtain ⟨sl, e1⟩ := I.base.slot b o e n hb hx
      exact ⟨sl, (hs.2 b (Nat.ne_of_lt (Nat.lt_of_lt_of_le (Heap.lt_size e) I.ok.above))).trans e1⟩
    · obtain ⟨o', e1⟩ := I.base.there b o e hx
      exact ⟨o', (hs.2 b (Nat.ne_of_lt (Nat.lt_of_lt_of_le (Heap.lt_size e) I.ok.above))).trans e1⟩
    · by_cases hj : j = i
      · subst hj
        rw [hi] at e1; cases e1
        rw [List.getElem?_set_self hiσ] at e2
        cases e2
        exact ⟨u, r, .inl ⟨hk, by simp⟩⟩
      · rw [List.getElem?_set_ne (Ne.symm hj)] at e2
        obtain ⟨u', r', q⟩ := hl j y v' e1 e2 e3
        refine ⟨u', r', ?_⟩
        rcases q with ⟨k, e⟩ | ⟨k, c, e, z⟩
        · refine .inl ⟨k, ?_⟩
          have : y ≠ x := fun e => hj (nodup_ix hN e1 (e ▸ hi))
          simp [this, e]
        · exact .inr ⟨k, c, e, z.sameBut hs (cne y c e)⟩
    · obtain ⟨w', z⟩ := I.cell y c e
      exact ⟨w', z.sameBut hs (cne y c e)⟩
    · obtain ⟨e, n, ne, nf, d⟩ := I.pin p hp
      exact ⟨(hs.2 p.1 ne).trans e, n, ne, nf, d⟩
  · have hfn : X.fn x = true := by
      rcases hf with z | z
      · exact z
      · rw [z] at hk; cases hk
    obtain ⟨c, hc⟩ := I.ok.has x (.inl hk)
    obtain ⟨w', z⟩ := I.cell x c hc
    refine wpAny_storeName_cell I.ok.kind hk hc z (fun h' hc' hs => ?_)
    obtain ⟨oc, hoc, hocd⟩ := id z
    refine h { s with heap := h' } ⟨I.ok, I.os, I.bare, ⟨fun b o e n hb hx => ?_, fun b o e n hb hx => ?_, I.base.free, fun b o e hx => ?_, I.base.tups, I.base.frzs, I.base.tbls⟩, ⟨m, hn.sameBut hs (Ne.symm (cne x c hc)), fun j y v' e1 e2 e3 => ?_⟩, fun y c' e => ?_, I.free, I.freeC, fun p hp => ?_, tracked ⟨oc, hoc, I.freeC x c hc⟩ hs, by simpa using I.len⟩ ⟨c, hs, .inr hc⟩
    · exact (hs.2 b (Nat.ne_of_lt (Nat.lt_of_lt_of_le (Heap.lt_size e) (I.ok.cab x c hfn hc)))).trans (I.base.keep b o e n hb hx)
    · obtain ⟨sl, e1⟩ := I.base.slot b o e n hb hx
      exact ⟨sl, (hs.2 b (Nat.ne_of_lt (Nat.lt_of_lt_of_le (Heap.lt_size e) (I.ok.cab x c hfn hc)))).trans e1⟩
    · obtain ⟨o', e1⟩ := I.base.there b o e hx
      exact ⟨o', (hs.2 b (Nat.ne_of_lt (Nat.lt_of_lt_of_le (Heap.lt_size e) (I.ok.cab x c hfn hc)))).trans e1⟩
    · by_cases hj : j = i
      · subst hj
        rw [hi] at e1; cases e1
        rw [List.getElem?_set_self hiσ] at e2
        cases e2
        exact ⟨u, r, .inr ⟨.inl hk, c, hc, hc'⟩⟩
      · rw [List.getElem?_set_ne (Ne.symm hj)] at e2
        obtain ⟨u', r', q⟩ := hl j y v' e1 e2 e3
        refine ⟨u', r', ?_⟩
        rcases q with q | ⟨k, c', e, z'⟩
        · exact .inl q
        · refine .inr ⟨k, c', e, z'.sameBut hs ?_⟩
          rintro rfl
          exact hj (nodup_ix hN e1 (I.ok.inj _ _ _ e hc ▸ hi))
    · by_cases hcc : c' = c
      · subst hcc; exact ⟨_, hc'⟩
      · obtain ⟨w2, z2⟩ := I.cell y c' e
        exact ⟨w2, z2.sameBut hs hcc⟩
    · obtain ⟨e, n, ne, nf, d⟩ := I.pin p hp
      refine ⟨(hs.2 p.1 ?_).trans e, n, ne, nf, d⟩
      intro q
      rw [q, hoc] at e
      have q' : oc = p.2 := Option.some.inj e
      exact d w' (by rw [← q']; exact hocd)
theorem store_ok {M : Model} {A : Around} {E : Value → Shared → Prop} {i : Nat} {x : Str} {v : V} {u : Value} {Q : Unit → Shared → Prop} (I : Inv X pins σ H s) (hN : X.N.Nodup) (hi : X.N[i]? = some x) (hx : Loc X.env.scope x) (r : RelV v u)
    (h : ∀ s', Inv X pins (σ.set i (some v)) H s' → Q () s') (hf : X.fn x = true ∨ X.env.scope.names.lookup x = some .local := by first | exact .inl rfl | exact .inr rfl | assumption) : wpAny M A (storeName X.env x u) Q E s :=
  store_ok2 I hN hi hx r (fun s' I' _ => h s' I') hf
theorem Inv.call' {s' : Shared} {ch : List Addr} (I : Inv X pins σ H s) (ho : s'.os = s.os) (u : Un (frs X.stack) ch H H' s.heap s'.heap) (hok : HOk X.prog X.w H' s'.heap) (hg : AllBare s'.gens)
    (hch : ∀ b ∈ ch, (b ∈ X.ex ∨ X.s_0.heap.objs.size ≤ b) ∧ b ≠ X.env.locals ∧ (∀ x c, X.env.cells.lookup x = some c → c ≠ b) ∧ ∀ p ∈ X.pn ++ pins, p.1 ≠ b) : Inv X pins σ H' s' := by
  obtain ⟨h', g', d', t', o'⟩ := s'
  have e : o' = s.os := ho
  subst e
  exact I.call (g' := g') (t' := t') (d' := d') u hok hg hch
end
abbrev XK := Value → Option Addr → Hp → Prop
abbrev St := List (Option V)
abbrev VK := V → Hp → Prop
abbrev TE := St → Hp → VK → Prop
abbrev TT := St → Hp → (Bool → Hp → Prop) → Prop
abbrev TA := St → Hp → (List V → Hp → Prop) → Prop
structure Ends where
  nx : St → Hp → Prop
  rt : VK
  bk : St → Hp → Prop := fun _ _ => False
  ct : St → Hp → Prop := fun _ _ => False
abbrev TS := Ends → St → Hp → Prop
def EP (X : Cx) (pins : List (Addr × Obj)) (σ : St) (Q : VK) (u : Value) (s' : Shared) : Prop := ∃ v H', Inv X pins σ H' s' ∧ RelV v u ∧ Q v H'
def TP (X : Cx) (pins : List (Addr × Obj)) (σ : St) (Q : Bool → Hp → Prop) (b : Bool) (s' : Shared) : Prop := ∃ H', Inv X pins σ H' s' ∧ Q b H'
def AP (X : Cx) (pins : List (Addr × Obj)) (σ : St) (Q : List V → Hp → Prop) (us : List Value) (s' : Shared) : Prop := ∃ vs H', Inv X pins σ H' s' ∧ Vals vs us ∧ Q vs H'
def SP (X : Cx) (pins : List (Addr × Obj)) (D : Ends) (f : Flow) (s' : Shared) : Prop :=
  match f with
  | .next => ∃ σ' H', Inv X pins σ' H' s' ∧ D.nx σ' H'
  | .brk => ∃ σ' H', Inv X pins σ' H' s' ∧ D.bk σ' H'
  | .cont => ∃ σ' H', Inv X pins σ' H' s' ∧ D.ct σ' H'
  | .ret u => ∃ v σ' H', Inv X pins σ' H' s' ∧ RelV v u ∧ D.rt v H'
def PE (X : Cx) (e : Expr) (t : TE) : Prop :=
  ∀ (pins : List (Addr × Obj)) (s : Shared) (σ : St) (H : Hp) (Q : VK), Inv X pins σ H s → t σ H Q → wpAny (model X.prog X.w) X.A (eval e X.env) (EP X pins σ Q) X.xe s
def PT (X : Cx) (e : Expr) (t : TT) : Prop :=
  ∀ (pins : List (Addr × Obj)) (s : Shared) (σ : St) (H : Hp) (Q : Bool → Hp → Prop), Inv X pins σ H s → t σ H Q → wpAny (model X.prog X.w) X.A (isTrue e X.env (eval e X.env)) (TP X pins σ Q) X.xe s
def PW (X : Cx) (e : Expr) (t : TT) : Prop :=
  ∀ (whole : Sem Value) (pins : List (Addr × Obj)) (s : Shared) (σ : St) (H : Hp) (Q : Bool → Hp → Prop), Inv X pins σ H s → t σ H Q → wpAny (model X.prog X.w) X.A (isTrue e X.env whole) (TP X pins σ Q) X.xe s
theorem PW.pt {X : Cx} {e : Expr} {t : TT} (h : PW X e t) : PT X e t := h _
def PA (X : Cx) (es : List Expr) (t : TA) : Prop :=
  ∀ (pos : Pos) (pins : List (Addr × Obj)) (s : Shared) (σ : St) (H : Hp) (Q : List V → Hp → Prop), Inv X pins σ H s → t σ H Q → wpAny (model X.prog X.w) X.A (spliced (backTo pos (starEach es X.env))) (AP X pins σ Q) X.xe s
def PS (X : Cx) (st : Stmt) (t : TS) : Prop :=
  ∀ (pins : List (Addr × Obj)) (s : Shared) (σ : St) (H : Hp) (D : Ends), Inv X pins σ H s → t D σ H → wpAny (model X.prog X.w) X.A (exec st X.env) (SP X pins D) X.xe s
def PSs (X : Cx) (st : List Stmt) (t : TS) : Prop :=
  ∀ (pins : List (Addr × Obj)) (s : Shared) (σ : St) (H : Hp) (D : Ends), Inv X pins σ H s → t D σ H → wpAny (model X.prog X.w) X.A (execs st X.env) (SP X pins D) X.xe s
theorem thn {α : Type} {t : Sem α} {Q Q' : α → Shared → Prop} {M : Model} {A : Around} {E : Value → Shared → Prop} {s : Shared} (h : wpAny M A t Q E s) (hQ : ∀ a s, Q a s → Q' a s) : wpAny M A t Q' E s := wpAny_mono h hQ fun _ _ x => x
end L2
namespace L2
open PySem PySem.Spec PyProof.Rows
section
variable {X : Cx}
theorem bin {a b : Expr} {ta tb : TE} (ha : PE X a ta) (hb : PE X b tb) {pins : List (Addr × Obj)} {s : Shared} {σ : St} {H : Hp} {R : V → V → Hp → Prop} (I : Inv X pins σ H s) (h : ta σ H fun x H1 => tb σ H1 fun y H2 => R x y H2)
    {α : Type} {Q : α → Shared → Prop} {f : Value → Value → Sem α}
    (hf : ∀ v u s2 x y H2, Inv X pins σ H2 s2 → RelV x v → RelV y u → R x y H2 → wpAny (model X.prog X.w) X.A (f v u) Q X.xe s2) :
    wpAny (model X.prog X.w) X.A (eval a X.env) (fun v s₁ => wpAny (model X.prog X.w) X.A (eval b X.env) (fun u s₂ => wpAny (model X.prog X.w) X.A (f v u) Q X.xe s₂) X.xe s₁) X.xe s := by
  refine thn (ha pins s σ H _ I h) fun v s1 ⟨x, H1, I1, r1, q1⟩ => ?_
  refine thn (hb pins s1 σ H1 _ I1 q1) fun u s2 ⟨y, H2, I2, r2, q2⟩ => ?_
  exact hf v u s2 x y H2 I2 r1 r2 q2
def tVar (i : Nat) : TE := fun σ H Q => ∃ v, σ[i]? = some (some v) ∧ Q v H
def tC (v : V) : TE := fun _ H Q => Q v H
theorem pe_var {i : Nat} {x : Str} {pos : Pos} (hN : X.N[i]? = some x) (hv : Vis X.env.scope x) (hd : (x == ("__debug__" : Str)) = false := by decide) (hcd : (x == ("__classdict__" : Str)) = false := by decide) : PE X (.Name x pos) (tVar i) := by
  intro pins s σ H Q I h
  obtain ⟨v, e, h⟩ := h
  obtain ⟨m, hn, hl⟩ := I.loc
  obtain ⟨u, r, l⟩ := hl i x v hN e hv
  have fin : EP X pins σ Q u s := ⟨v, H, I, r, h⟩
  rcases l with ⟨hk, hm⟩ | ⟨hk, c, hc, hcell⟩
  · exact wpAny_Name (wpAny_loadName_local I.ok.kind hk hn hm fin) hd
  · rcases hk with hk | hk
    · exact wpAny_Name (wpAny_loadName_cell I.ok.kind hk hc hcell fin) hd
    · exact wpAny_Name (wpAny_loadName_free I.ok.kind hk hc hcell fin hcd) hd
theorem pe_int {i j pos} : PE X (.Constant (.int i) j pos) (tC (.int i)) := fun _ _ _ H _ I h => wpAny_Constant_int ⟨.int i, H, I.tok _, ⟨_, rfl⟩, h⟩
theorem pe_non {j pos} : PE X (.Constant .none j pos) (tC .non) := fun _ _ _ H _ I h => Constant_none ⟨.non, H, I, rfl, h⟩
def Gl (X : Cx) (x : Str) : Prop := X.env.kindOf x = some .globalImplicit
theorem ld_glob {E : Value → Shared → Prop} {pins : List (Addr × Obj)} {s : Shared} {σ : St} {H : Hp} {x : Str} {u : Value} {pos : Pos} {Q : Value → Shared → Prop} (I : Inv X pins σ H s) (hg : Gl X x) (hm : X.mg x = some u) (h : Q u s)
    (hd : (x == ("__debug__" : Str)) = false := by decide) : wpAny (model X.prog X.w) X.A (eval (.Name x pos) X.env) Q E s :=
  Calls.Name_function_global I.ok.kind hg (Calls.loadGlobal_global (by rw [I.ok.glob]; exact I.mod.glob.keeps I.bk) hm h) hd
theorem ld_blt {E : Value → Shared → Prop} {pins : List (Addr × Obj)} {s : Shared} {σ : St} {H : Hp} {x : Str} {u : Value} {pos : Pos} {Q : Value → Shared → Prop} (I : Inv X pins σ H s) (hg : Gl X x) (hm : X.mg x = none) (hv : bootBuiltins x = some u) (h : Q u s)
    (hn : x ≠ "__name__" := by decide) (hd : (x == ("__debug__" : Str)) = false := by decide) : wpAny (model X.prog X.w) X.A (eval (.Name x pos) X.env) Q E s := by
  obtain ⟨mb, h1, h2⟩ := I.mod.blt
  exact Calls.Name_function_global I.ok.kind hg (Calls.loadGlobal_builtin (by rw [I.ok.glob]; exact I.mod.glob.keeps I.bk) hm (by rw [I.ok.blt]; exact h1.keeps I.bk) ((h2 x hn).trans hv) h) hd
theorem pe_glob {x : Str} {v : V} {u : Value} {pos : Pos} (hg : Gl X x) (hm : X.mg x = some u) (r : RelV v u) (hd : (x == ("__debug__" : Str)) = false := by decide) : PE X (.Name x pos) (tC v) :=
  fun _ _ _ H _ I h => ld_glob I hg hm ⟨v, H, I, r, h⟩ hd
variable {a b : Expr} {ta tb : TE} {pos : Pos}
def PC (X : Cx) (op : CmpOp) (a b : Expr) (t : TE) : Prop :=
  ∀ (pins : List (Addr × Obj)) (s : Shared) (σ : St) (H : Hp) (Q : VK), Inv X pins σ H s → t σ H Q →
    wpAny (model X.prog X.w) X.A (eval a X.env) (fun v s₁ => wpAny (model X.prog X.w) X.A (eval b X.env) (fun u s₂ => wpAny (model X.prog X.w) X.A (compareOp op v u) (EP X pins σ Q) X.xe s₂) X.xe s₁) X.xe s
theorem nobehind (b : Expr) {op : CmpOp} (h : op ≠ .In) (h2 : op ≠ .NotIn) : behindInMarks op b = false := by
  have e1 : (op == CmpOp.In) = false := by cases op <;> first | rfl | exact absurd rfl h
  have e2 : (op == CmpOp.NotIn) = false := by cases op <;> first | rfl | exact absurd rfl h2
  cases b <;> simp [behindInMarks, e1, e2]
def tIsN (ta : TE) : TE := fun σ H Q => ta σ H fun x H1 => Q (.bl (decide (x = .non))) H1
def tNotN (ta : TE) : TE := fun σ H Q => ta σ H fun x H1 => Q (.bl (!decide (x = .non))) H1
theorem RelV.none_iff {x : V} {v : Value} (r : RelV x v) : (v == Value.none) = decide (x = .non) := by
  cases x with
  | non => cases r; rfl
  | bl _ => cases r; rfl
  | int _ => obtain ⟨t, rfl⟩ := r; rfl
  | str _ => obtain ⟨t, rfl⟩ := r; rfl
  | byt _ => obtain ⟨t, rfl⟩ := r; rfl
  | flt _ => obtain ⟨t, rfl⟩ := r; rfl
  | ref _ => cases r; rfl
  | ty _ => cases r; rfl
theorem pc_isN {j pos'} (ha : PE X a ta) : PC X .Is a (.Constant .none j pos') (tIsN ta) := by
  intro pins s σ H Q I h
  refine thn (ha pins s σ H _ I h) fun v s1 ⟨x, H1, I1, r1, q1⟩ => ?_
  exact Constant_none (is_none_gen ⟨.bl _, H1, I1, by rw [r1.none_iff]; rfl, q1⟩)
theorem pc_notN {j pos'} (ha : PE X a ta) : PC X .IsNot a (.Constant .none j pos') (tNotN ta) := by
  intro pins s σ H Q I h
  refine thn (ha pins s σ H _ I h) fun v s1 ⟨x, H1, I1, r1, q1⟩ => ?_
  exact Constant_none (isnot_none_gen ⟨.bl _, H1, I1, by rw [r1.none_iff]; rfl, q1⟩)
def tB (t : TE) : TT := fun σ H Q => t σ H fun x H1 => ∃ c, x = .bl c ∧ Q c H1
theorem pe_cmp {op : CmpOp} {t : TE} (h : PC X op a b t) (h1 : behindInMarks op b = false := by first | exact nobehind _ (by decide) (by decide) | rfl) : PE X (.Compare a [op] [b] pos) t := fun pins s σ H Q I hw => wpAny_Compare1 (h pins s σ H Q I hw) h1
theorem pt_cmp {op : CmpOp} {t : TE} (h : PC X op a b t) (h1 : behindInMarks op b = false := by first | exact nobehind _ (by decide) (by decide) | rfl) : PT X (.Compare a [op] [b] pos) (tB t) := by
  intro pins s σ H Q I hw
  refine wpAny_isTrue_Compare1 (thn (h pins s σ H _ I hw) fun v s1 h1 => thn h1 fun u s2 h2 => thn h2 fun c s3 ⟨x, H1, I1, r1, q1⟩ => ?_) h1
  obtain ⟨d, rfl, q⟩ := q1
  cases r1
  exact wpAny_truthy_bool ⟨H1, I1, q⟩
theorem pt_val {e : Expr} {t : TE} (h : PE X e t) (he : ∀ whole, isTrue e X.env whole = (do let v ← whole; standAt e.pos; holding [v] (truthy v)) := by intro _; rfl) : PT X e (tB t) := by
  intro pins s σ H Q I hw
  refine isTrue_plain (thn (h pins s σ H _ I hw) fun v s1 ⟨x, H1, I1, r1, q1⟩ => ?_) (he _)
  obtain ⟨d, rfl, q⟩ := q1
  cases r1
  exact wpAny_truthy_bool ⟨H1, I1, q⟩
variable {tA tB' : TT} {rest : List Expr}
def tAnd (t u : TT) : TT := fun σ H Q => t σ H fun c H1 => if c = true then u σ H1 Q else Q false H1
def tOr (t u : TT) : TT := fun σ H Q => t σ H fun c H1 => if c = true then Q true H1 else u σ H1 Q
def tNot (t : TT) : TT := fun σ H Q => t σ H fun c H1 => Q (!c) H1
theorem pw_and1 (ha : PT X a tA) : PW X (.BoolOp .And [a] pos) tA := by
  intro wh pins s σ H Q I h
  refine isTrue_and (thn (ha pins s σ H Q I h) fun c s1 e => ?_)
  cases c with
  | true => exact isTrue_and_nil e
  | false => exact e
theorem pw_or1 (ha : PT X a tA) : PW X (.BoolOp .Or [a] pos) tA := by
  intro wh pins s σ H Q I h
  refine isTrue_or (thn (ha pins s σ H Q I h) fun c s1 e => ?_)
  cases c with
  | false => exact isTrue_or_nil e
  | true => exact e
theorem pw_and (ha : PT X a tA) (hb : PW X (.BoolOp .And (b :: rest) pos) tB') : PW X (.BoolOp .And (a :: b :: rest) pos) (tAnd tA tB') := by
  intro wh pins s σ H Q I h
  refine isTrue_and (thn (ha pins s σ H _ I h) fun c s1 ⟨H1, I1, q1⟩ => ?_)
  cases c with
  | true => exact hb wh pins s1 σ H1 Q I1 q1
  | false => exact ⟨H1, I1, q1⟩
theorem pw_or (ha : PT X a tA) (hb : PW X (.BoolOp .Or (b :: rest) pos) tB') : PW X (.BoolOp .Or (a :: b :: rest) pos) (tOr tA tB') := by
  intro wh pins s σ H Q I h
  refine isTrue_or (thn (ha pins s σ H _ I h) fun c s1 ⟨H1, I1, q1⟩ => ?_)
  cases c with
  | true => exact ⟨H1, I1, q1⟩
  | false => exact hb wh pins s1 σ H1 Q I1 q1
theorem pt_not (ha : PT X a tA) : PT X (.UnaryOp .Not a pos) (tNot tA) := by
  intro pins s σ H Q I h
  exact isTrue_not (ha pins s σ H (fun c H1 => Q (!c) H1) I h)
def tAndV (ta tb : TE) : TE := fun σ H Q => ta σ H fun x H1 => ∃ c, x = .bl c ∧ if c = true then tb σ H1 Q else Q (.bl false) H1
def tNotV (ta : TE) : TE := fun σ H Q => ta σ H fun x H1 => ∃ c, x = .bl c ∧ Q (.bl (!c)) H1
theorem pe_one {op} {t : TE} (h : PE X a t) : PE X (.BoolOp op [a] pos) t := fun pins s σ H Q I hw => BoolOp_one (h pins s σ H Q I hw)
theorem pe_and (ha : PE X a ta) (hb : PE X (.BoolOp .And (b :: rest) pos) tb) : PE X (.BoolOp .And (a :: b :: rest) pos) (tAndV ta tb) := by
  intro pins s σ H Q I h
  refine BoolOp_and (thn (ha pins s σ H _ I h) fun v s1 ⟨x, H1, I1, r1, q1⟩ => ?_)
  obtain ⟨c, rfl, q1⟩ := q1
  cases r1
  refine wpAny_truthy_bool ?_
  cases c with
  | true => exact hb pins s1 σ H1 Q I1 q1
  | false => exact ⟨.bl false, H1, I1, rfl, q1⟩
theorem pe_not (ha : PE X a ta) : PE X (.UnaryOp .Not a pos) (tNotV ta) := by
  intro pins s σ H Q I h
  refine UnaryOp_ (thn (ha pins s σ H _ I h) fun v s1 ⟨x, H1, I1, r1, q1⟩ => ?_)
  obtain ⟨c, rfl, q1⟩ := q1
  cases r1
  exact not_of (wpAny_truthy_bool ⟨.bl (!c), H1, I1, rfl, q1⟩)
def tIf (t : TT) (ta tb : TE) : TE := fun σ H Q => t σ H fun c H1 => if c = true then ta σ H1 Q else tb σ H1 Q
theorem pe_ifExp {c : Expr} (hc : PT X c tA) (ha : PE X a ta) (hb : PE X b tb) : PE X (.IfExp c a b pos) (tIf tA ta tb) := by
  intro pins s σ H Q I h
  refine wpAny_IfExp (thn (hc pins s σ H _ I h) fun d s1 ⟨H1, I1, q1⟩ => ?_)
  cases d with
  | true => exact ha pins s1 σ H1 Q I1 q1
  | false => exact hb pins s1 σ H1 Q I1 q1
end
end L2
namespace L2
open PySem PySem.Spec PyProof.Rows
def SqL (K : PySem.W.Frag) (H : Hp) (a : Addr) (xs : List V) : Prop :=
  Rd H a (.lst xs) ∨
    ∃ (o : Obj) (its : Array Value) (n : Nat), K.lookup a = some o ∧ o.cls = .type "list" ∧ o.dict = none ∧ o.data = .seq its n ∧ its.size ≤ sizeLine ∧ Vals xs its.toList
def SqT (K : PySem.W.Frag) (H : Hp) (a : Addr) (xs : List V) : Prop :=
  Rd H a (.tup xs) ∨
    ∃ (o : Obj) (its : Array Value) (n : Nat), K.lookup a = some o ∧ o.cls = .type "tuple" ∧ o.data = .seq its n ∧ its.size ≤ sizeLine ∧ Vals xs its.toList
def absV : Value → Option V
  | .none => some .non
  | .bool b => some (.bl b)
  | .int i _ => some (.int i)
  | .str x _ => some (.str x)
  | .bytes b _ => some (.byt b)
  | .float b _ => some (.flt b)
  | .ref a => some (.ref a)
  | .type n => some (.ty n)
  | _ => none
theorem RelV.abs {x : V} {u : Value} (r : RelV x u) : absV u = some x := by
  cases x with
  | non => cases r; rfl
  | bl _ => cases r; rfl
  | int _ => obtain ⟨t, rfl⟩ := r; rfl
  | str _ => obtain ⟨t, rfl⟩ := r; rfl
  | byt _ => obtain ⟨t, rfl⟩ := r; rfl
  | flt _ => obtain ⟨t, rfl⟩ := r; rfl
  | ref _ => cases r; rfl
  | ty _ => cases r; rfl
theorem RelV.inj {x y : V} {u : Value} (r : RelV x u) (q : RelV y u) : x = y := Option.some.inj (r.abs.symm.trans q.abs)
theorem Vals.inj : ∀ {xs ys : List V} {us : List Value}, Vals xs us → Vals ys us → xs = ys
  | _, _, _, .nil, .nil => rfl
  | _, _, _, .cons r t, .cons r' t' => by rw [r.inj r', Vals.inj t t']
section
variable {X : Cx} {pins : List (Addr × Obj)} {σ : St} {H : Hp} {s : Shared} {a : Addr} {xs ys : List V}
theorem SqL.of {K : PySem.W.Frag} (h : H a = some (.lst xs)) : SqL K H a xs := .inl (.inl h)
theorem SqT.of {K : PySem.W.Frag} (h : H a = some (.tup xs)) : SqT K H a xs := .inl (.inl h)
theorem Inv.list (I : Inv X pins σ H s) (h : SqL X.K H a xs) : ∃ its : List Value, Vals xs its ∧ PlainL s.heap a its.toArray ∧ xs.length ≤ sizeLine := by
  rcases h with h | ⟨o, its, n, hk, hc, hd, hs, hz, r⟩
  · obtain ⟨z, its, n, r, e⟩ := h.ok I.hok
    exact ⟨its, r, ⟨_, n, e, rfl, rfl, rfl⟩, z⟩
  · refine ⟨its.toList, r, ⟨o, n, I.kIn a o hk, hc, hd, by simpa using hs⟩, ?_⟩
    have e := r.length
    simp only [Array.length_toList] at e
    omega
theorem Inv.tuple (I : Inv X pins σ H s) (h : SqT X.K H a xs) : ∃ its : List Value, Vals xs its ∧ IsTup s.heap a its.toArray ∧ xs.length ≤ sizeLine := by
  rcases h with h | ⟨o, its, n, hk, hc, hs, hz, r⟩
  · obtain ⟨z, its, r, p⟩ := h.ok I.hok
    exact ⟨its, r, p, z⟩
  · refine ⟨its.toList, r, ⟨o, I.kIn a o hk, hc, n, by simpa using hs⟩, ?_⟩
    have e := r.length
    simp only [Array.length_toList] at e
    omega
theorem Inv.list_inj (I : Inv X pins σ H s) (h : SqL X.K H a xs) (h' : SqL X.K H a ys) : xs = ys := by
  obtain ⟨its, r, ⟨o, n, e, _, _, d⟩, _⟩ := I.list h
  obtain ⟨its', r', ⟨o', n', e', _, _, d'⟩, _⟩ := I.list h'
  rw [e] at e'; cases e'
  rw [d] at d'
  injection d' with d1 _
  have : its = its' := by simpa using congrArg Array.toList d1
  subst this
  exact r.inj r'
end
abbrev Cx.wish (X : Cx) (E : Value → Shared → Prop) : Cx := { X with xe := E }
abbrev Cx.nox (X : Cx) : Cx := X.wish fun _ _ => False
theorem Cx.Ok.wish {X : Cx} (ok : X.Ok) (E : Value → Shared → Prop) : (X.wish E).Ok :=
  ⟨ok.mod, ok.kind, ok.glob, ok.blt, ok.above, ok.inj, ok.has, ok.cab, ok.hd, ok.frames, ok.stk, ok.exf, ok.bs, ok.bsz, ok.noex, ok.exfs, ok.funs, ok.frf⟩
theorem Cx.Ok.unwish {X : Cx} {E : Value → Shared → Prop} (ok : (X.wish E).Ok) : X.Ok :=
  ⟨ok.mod, ok.kind, ok.glob, ok.blt, ok.above, ok.inj, ok.has, ok.cab, ok.hd, ok.frames, ok.stk, ok.exf, ok.bs, ok.bsz, ok.noex, ok.exfs, ok.funs, ok.frf⟩
section
variable {X : Cx} {pins : List (Addr × Obj)} {σ : St} {H : Hp} {s : Shared} {E : Value → Shared → Prop}
theorem Inv.wish (I : Inv X pins σ H s) (E : Value → Shared → Prop) : Inv (X.wish E) pins σ H s := ⟨I.ok.wish E, I.os, I.bare, I.base, I.loc, I.cell, I.free, I.freeC, I.pin, I.hok, I.len⟩
theorem Inv.unwish (I : Inv (X.wish E) pins σ H s) : Inv X pins σ H s := ⟨I.ok.unwish, I.os, I.bare, I.base, I.loc, I.cell, I.free, I.freeC, I.pin, I.hok, I.len⟩
theorem SP.unwish {D : Ends} {f : Flow} {s' : Shared} (h : SP (X.wish E) pins D f s') : SP X pins D f s' := by
  cases f with
  | next => obtain ⟨σ', H', I, q⟩ := h; exact ⟨σ', H', I.unwish, q⟩
  | brk => obtain ⟨σ', H', I, q⟩ := h; exact ⟨σ', H', I.unwish, q⟩
  | cont => obtain ⟨σ', H', I, q⟩ := h; exact ⟨σ', H', I.unwish, q⟩
  | ret u => obtain ⟨v, σ', H', I, r, q⟩ := h; exact ⟨v, σ', H', I.unwish, r, q⟩
theorem PSs.nox {st : List Stmt} {t : TS} (h : PSs X.nox st t) : PSs X st t := fun pins s σ H D I hw =>
  wpAny_mono (h pins s σ H D (I.wish _) hw) (fun _ _ q => q.unwish) fun _ _ z => False.elim z
end
section
variable {X : Cx} {st : Stmt} {rest : List Stmt} {t u : TS} {e : Expr} {te : TE} {pos : Pos}
def tNext : TS := fun D σ H => D.nx σ H
def tSeq (t u : TS) : TS := fun D σ H => t { D with nx := u D } σ H
theorem pss_nil : PSs X [] tNext := fun _ _ σ H _ I h => wpAny_execs_nil ⟨σ, H, I, h⟩
theorem pss_cons (h1 : PS X st t) (h2 : PSs X rest u) : PSs X (st :: rest) (tSeq t u) := by
  intro pins s σ H D I h
  refine wpAny_execs_cons (thn (h1 pins s σ H { D with nx := u D } I h) fun f s1 q => ?_)
  cases f with
  | next =>
    obtain ⟨σ', H', I', q⟩ := q
    exact h2 pins s1 σ' H' D I' q
  | ret v => exact q
  | brk => exact q
  | cont => exact q
theorem pss_one (h1 : PS X st t) : PSs X [st] t := by
  intro pins s σ H D I h
  refine wpAny_execs_cons (thn (h1 pins s σ H D I h) fun f s1 q => ?_)
  cases f with
  | next => exact wpAny_execs_nil q
  | ret v => exact q
  | brk => exact q
  | cont => exact q
theorem Inv.quiet {pins : List (Addr × Obj)} {σ : St} {H : Hp} {s : Shared} (I : Inv X pins σ H s) : interactive X.env = false := by simp [interactive, I.ok.kind]
def tDrop (te : TE) : TS := fun D σ H => te σ H fun _ H1 => D.nx σ H1
theorem ps_expr (he : PE X e te) (hs : swapsWith e none pos.line X.env = pure false := by rfl) : PS X (.Expr e pos) (tDrop te) := by
  intro pins s σ H D I h
  exact wpAny_Expr_any (thn (he pins s σ H _ I h) fun v s1 ⟨x, H1, I1, r1, q1⟩ => ⟨σ, H1, I1, q1⟩) I.quiet hs
def tRet (te : TE) : TS := fun D σ H => te σ H D.rt
theorem ps_ret (he : PE X e te) : PS X (.Return (some e) pos) (tRet te) := by
  intro pins s σ H D I h
  exact wpAny_Return_some (thn (he pins s σ H _ I h) fun v s1 ⟨x, H1, I1, r1, q1⟩ => ⟨x, σ, H1, I1, r1, q1⟩)
def tIfS (c : TT) (t u : TS) : TS := fun D σ H => c σ H fun b H1 => if b = true then t D σ H1 else u D σ H1
theorem ps_if {c : Expr} {a b : List Stmt} {tc : TT} (hc : PT X c tc) (ha : PSs X a t) (hb : PSs X b u) : PS X (.If c a b pos) (tIfS tc t u) := by
  intro pins s σ H D I h
  refine wpAny_If (thn (hc pins s σ H _ I h) fun d s1 ⟨H1, I1, q1⟩ => ?_)
  cases d with
  | true => exact ha pins s1 σ H1 D I1 q1
  | false => exact hb pins s1 σ H1 D I1 q1
end
abbrev TG := V → St → Hp → (St → Hp → Prop) → Prop
abbrev TGs := List V → St → Hp → (St → Hp → Prop) → Prop
def PG (X : Cx) (target : Expr) (t : TG) : Prop :=
  ∀ (pins : List (Addr × Obj)) (s : Shared) (σ : St) (H : Hp) (v : V) (u : Value) (Q : St → Hp → Prop), Inv X pins σ H s → RelV v u → t v σ H Q →
    wpAny (model X.prog X.w) X.A (assign target X.env u) (fun _ s' => ∃ σ' H', Inv X pins σ' H' s' ∧ Q σ' H') X.xe s
def PGs (X : Cx) (ts : List Expr) (t : TGs) : Prop :=
  ∀ (pins : List (Addr × Obj)) (s : Shared) (σ : St) (H : Hp) (vs : List V) (us : List Value) (Q : St → Hp → Prop), Inv X pins σ H s → Vals vs us → t vs σ H Q →
    wpAny (model X.prog X.w) X.A (assignInOrder ((assignEach ts X.env).map (·.2)) us) (fun _ s' => ∃ σ' H', Inv X pins σ' H' s' ∧ Q σ' H') X.xe s
abbrev TSet := V → V → V → Hp → (Hp → Prop) → Prop
def PSet (X : Cx) (t : TSet) : Prop :=
  ∀ (pins : List (Addr × Obj)) (s : Shared) (σ : St) (H : Hp) (o i v : V) (ov iv u : Value) (Q : Hp → Prop), Inv X pins σ H s → RelV o ov → RelV i iv → RelV v u → t o i v H Q →
    wpAny (model X.prog X.w) X.A (setItem ov iv u) (fun _ s' => ∃ H', Inv X pins σ H' s' ∧ Q H') X.xe s
section
variable {X : Cx} {pos : Pos}
def gName (i : Nat) : TG := fun v σ H Q => Q (σ.set i (some v)) H
theorem pg_name {i : Nat} {x : Str} (hN : X.N.Nodup) (hi : X.N[i]? = some x) (hx : Loc X.env.scope x) (hf : X.fn x = true ∨ X.env.scope.names.lookup x = some .local := by first | exact .inl rfl | exact .inr rfl | assumption) : PG X (.Name x pos) (gName i) := by
  intro pins s σ H v u Q I r h
  exact wpAny_assign_Name (store_ok I hN hi hx r (fun s' I' => ⟨_, H, I', h⟩) hf)
def gNil : TGs := fun vs σ H Q => vs = [] ∧ Q σ H
def gCons (t : TG) (u : TGs) : TGs := fun vs σ H Q => ∃ v r, vs = v :: r ∧ t v σ H fun σ' H' => u r σ' H' Q
theorem pgs_nil : PGs X [] gNil := by
  intro pins s σ H vs us Q I r h
  obtain ⟨e, h⟩ := h
  subst e
  cases r
  exact assignInOrder_nil ⟨σ, H, I, h⟩
theorem pgs_cons {e : Expr} {es : List Expr} {t : TG} {u : TGs} (h1 : PG X e t) (h2 : PGs X es u)
    (hs : (assignEach (e :: es) X.env).map (·.2) = assign e X.env :: (assignEach es X.env).map (·.2) := by rfl) : PGs X (e :: es) (gCons t u) := by
  intro pins s σ H vs us Q I r h
  obtain ⟨v, vr, e1, h⟩ := h
  subst e1
  cases r with
  | cons r rr =>
    rw [hs]
    refine assignInOrder_cons (thn (h1 pins s σ H _ _ _ I r h) fun _ s1 ⟨σ1, H1, I1, q1⟩ => ?_)
    exact h2 pins s1 σ1 H1 _ _ Q I1 rr q1
def gTup (K : PySem.W.Frag) (n : Nat) (t : TGs) : TG := fun v σ H Q => ∃ a xs, v = .ref a ∧ SqT K H a xs ∧ xs.length = n ∧ t xs σ H Q
theorem pg_tup {es : List Expr} {k : Nat} {t : TGs} {n : Nat} (hc : X.calm = true) (h : PGs X es t)
    (hn : (assignEach es X.env).length = n := by rfl) (hst : (assignEach es X.env).findIdx? (·.1) = none := by rfl) : PG X (.Tuple es k pos) (gTup X.K n t) := by
  intro pins s σ H v u Q I r hw
  obtain ⟨a, xs, e1, hq, hl, hw⟩ := hw
  subst e1
  cases r
  obtain ⟨its, rv, ht, hz⟩ := I.tuple hq
  refine assign_Tuple_tuple (I.ok.hd hc) ht (by simp [hn, ← hl, rv.length]) hst fun h' hx => ?_
  have I1 : Inv X pins σ H { s with heap := h' } := I.kept (t' := s.toks) fun b o e => hx b o (Nat.ne_of_lt (Heap.lt_size e)) e
  exact h pins _ σ H xs _ Q I1 (by simpa using rv) hw
def gSub (to ti : TE) (t : TSet) : TG := fun v σ H Q => to σ H fun o H1 => ti σ H1 fun i H2 => t o i v H2 fun H3 => Q σ H3
theorem pg_sub {o i : Expr} {to ti : TE} {t : TSet} (ho : PE X o to) (hi : PE X i ti) (hs : PSet X t)
    (ha : ∀ v, assign (.Subscript o i pos) X.env v = (do
      let ov ← holding [v] (eval o X.env)
      let iv ← holding [v, ov] (eval i X.env)
      standAt pos
      holding [v, ov, iv] (setItem ov iv v)
      release [v, ov, iv] []) := by intro _; rfl) : PG X (.Subscript o i pos) (gSub to ti t) := by
  intro pins s σ H v u Q I r h
  rw [ha]
  refine wpAny_bind (wpAny_holding (thn (ho pins s σ H _ I h) fun ov s1 ⟨x, H1, I1, r1, q1⟩ => ?_))
  refine wpAny_bind (wpAny_holding (thn (hi pins s1 σ H1 _ I1 q1) fun iv s2 ⟨y, H2, I2, r2, q2⟩ => ?_))
  refine wpAny_bind (wpAny_standAt (wpAny_bind (wpAny_holding (thn (hs pins s2 σ H2 x y v ov iv u _ I2 r1 r2 r q2) fun _ s3 ⟨H3, I3, q3⟩ => ?_))))
  exact wpAny_release ⟨σ, H3, I3, q3⟩
def tAsg (te : TE) (g : TG) : TS := fun D σ H => te σ H fun x H1 => g x σ H1 D.nx
theorem ps_asg {tg e : Expr} {te : TE} {g : TG} (he : PE X e te) (hg : PG X tg g) (hs : swapsWithSole [tg] e pos.line X.env = pure false := by rfl) (hw : swappedStores [tg] e X.env = pure none := by rfl)
    (h1 : (assignEach [tg] X.env).map (·.2) = [assign tg X.env] := by rfl) : PS X (.Assign [tg] e pos) (tAsg te g) := by
  intro pins s σ H D I h
  refine wpAny_Assign_stores (thn (he pins s σ H _ I h) fun v s1 ⟨x, H1, I1, r1, q1⟩ => ?_) hs hw
  rw [h1]
  exact thn (hg pins s1 σ H1 x v _ I1 r1 q1) fun _ s2 q => q
theorem ps_set {i : Nat} {x : Str} {e : Expr} {te : TE} {pos' : Pos} (hN : X.N.Nodup) (hi : X.N[i]? = some x) (hx : Loc X.env.scope x) (he : PE X e te) (hs : swapsWith e (some (.Name x pos')) pos.line X.env = pure false := by rfl) (hf : X.fn x = true ∨ X.env.scope.names.lookup x = some .local := by first | exact .inl rfl | exact .inr rfl | assumption) :
    PS X (.Assign [.Name x pos'] e pos) (tAsg te (gName i)) := by
  intro pins s σ H D I h
  refine wpAny_Assign_Name (thn (he pins s σ H _ I h) fun v s1 ⟨y, H1, I1, r1, q1⟩ => ?_) hs
  exact store_ok I1 hN hi hx r1 (fun s2 I2 => ⟨_, H1, I2, q1⟩) hf
end
section
variable {X : Cx} {pos : Pos}
def tWhile (c : TT) (tb : TS) : TS := fun D σ H => ∃ W : Nat → St → Hp → Prop, (∃ m, W m σ H) ∧ ∀ m σ H, W m σ H →
  c σ H fun b H1 => if b = true then ∃ N : St → Hp → Prop, (∀ σ' H', N σ' H' → ∃ m', m' < m ∧ W m' σ' H') ∧ tb { D with nx := N, ct := N, bk := D.nx } σ H1 else D.nx σ H1
theorem ps_while {c : Expr} {body : List Stmt} {tc : TT} {tb : TS} (hp : PassesOwn (model X.prog X.w) X.A X.env X.xe) (hc : PT X c tc) (hb : PSs X body tb) : PS X (.While c body [] pos) (tWhile tc tb) := by
  intro pins s σ H D I h
  obtain ⟨W, ⟨m0, w0⟩, turn⟩ := h
  refine wpAny_While (codeAny_whileLoop (fun n s' => ∃ σ' H', Inv X pins σ' H' s' ∧ W n σ' H') ?_ m0 ⟨σ, H, I, w0⟩)
  rintro n s1 ⟨σ1, H1, I1, w1⟩
  refine wpAny_passesOwn hp (thn (hc pins s1 σ1 H1 _ I1 (turn n σ1 H1 w1)) fun b s2 ⟨H2, I2, q2⟩ => ?_)
  cases b with
  | true =>
    obtain ⟨N, hN, q2⟩ := q2
    rw [if_pos rfl]
    refine wpAny_passesOwn hp (thn (hb pins s2 σ1 H2 _ I2 q2) fun f s3 q3 => ?_)
    cases f with
    | next =>
      obtain ⟨σ3, H3, I3, n3⟩ := q3
      obtain ⟨m', hm, w3⟩ := hN σ3 H3 n3
      exact ⟨m', hm, σ3, H3, I3, w3⟩
    | cont =>
      obtain ⟨σ3, H3, I3, n3⟩ := q3
      obtain ⟨m', hm, w3⟩ := hN σ3 H3 n3
      exact ⟨m', hm, σ3, H3, I3, w3⟩
    | brk => exact q3
    | ret v => exact q3
  | false =>
    rw [if_neg Bool.false_ne_true]
    exact wpAny_execs_nil ⟨σ1, H2, I2, q2⟩
end
structure It where
  go : Nat → Hp → Prop
  yld : Nat → Hp → V → Hp → Prop
  stop : Nat → Hp → Prop
def FpOk (X : Cx) (pins : List (Addr × Obj)) (H : Hp) (b : Addr) : Prop :=
  H b = none ∧ b ≠ X.env.locals ∧ b ∉ X.fs ∧ (b ∈ X.ex ∨ X.s_0.heap.objs.size ≤ b) ∧ (∀ x c, X.env.cells.lookup x = some c → c ≠ b) ∧ ∀ p ∈ X.pn ++ pins, p.1 ≠ b
theorem Inv.fpOk {X : Cx} {pins : List (Addr × Obj)} {σ : St} {H H' : Hp} {s : Shared} {b : Addr} (I : Inv X pins σ H s) (hb : s.heap.objs.size ≤ b) (hn : H' b = none) : FpOk X pins H' b := by
  refine ⟨hn, Nat.ne_of_gt (Nat.lt_of_lt_of_le I.lt hb), I.nofs hb, .inr (Nat.le_trans I.sz hb), fun x c e z => ?_, fun p hp z => ?_⟩
  · obtain ⟨v, q⟩ := I.cell x c e
    exact absurd (Nat.lt_of_lt_of_le q.lt (by rw [z]; exact hb)) (Nat.lt_irrefl _)
  · exact absurd (Nat.lt_of_lt_of_le (Heap.lt_size (I.pin p hp).1) (by rw [z]; exact hb)) (Nat.lt_irrefl _)
structure Turn (P : Program) (w : World) (K : PySem.W.Frag) (tg : Expr) (J : It) (fp : List Addr) (it : Addr) (tn : Nat → Heap → Prop) : Prop where
  mem : it ∈ fp
  obj : ∀ i h, tn i h → ∀ b ∈ fp, ∃ o, h.get? b = some o ∧ ∀ v, o.data ≠ .cell v
  keep : ∀ i h h', tn i h → (∀ b ∈ fp, ∀ o, h.get? b = some o → h'.get? b = some o) → tn i h'
  item : ∀ (X : Cx), X.prog = P → X.w = w → X.K = K → X.calm = true → ∀ (i : Nat) (pins : List (Addr × Obj)) (s : Shared) (σ : St) (H : Hp) (E : Value → Shared → Prop), Inv X pins σ H s → (∀ b ∈ fp, FpOk X pins H b) → tn i s.heap → J.go i H →
    wpAny (model P w) X.A (pyNext (.ref it)) (fun r s1 => ∃ u, r = some u ∧
      wpAny (model P w) X.A (letOwnedTupleGo tg (.ref it) u) (fun _ s2 => ∃ x H', Inv X pins σ H' s2 ∧ RelV x u ∧ J.yld i H x H' ∧ tn (i + 1) s2.heap ∧ ∀ b ∈ fp, H' b = none) E s1) E s
  done : ∀ (X : Cx), X.prog = P → X.w = w → X.K = K → X.calm = true → ∀ (i : Nat) (pins : List (Addr × Obj)) (s : Shared) (σ : St) (H : Hp) (E : Value → Shared → Prop), Inv X pins σ H s → (∀ b ∈ fp, FpOk X pins H b) → tn i s.heap → J.stop i H →
    wpAny (model P w) X.A (pyNext (.ref it)) (fun r s1 => r = none ∧ Inv X pins σ H s1) E s
  self : ∀ (A : Around) (i : Nat) (s : Shared) (Q : Value → Shared → Prop) (E : Value → Shared → Prop), tn i s.heap → Q (.ref it) s → wpAny (model P w) A (pyIter (.ref it)) Q E s
abbrev TI := St → Hp → (It → Hp → Prop) → Prop
def PIE (X : Cx) (pins : List (Addr × Obj)) (σ : St) (tg : Expr) (R : It → Hp → Prop) (itv : Value) (s2 : Shared) : Prop :=
  ∃ (it : Addr) (fp : List Addr) (tn : Nat → Heap → Prop) (J : It) (H' : Hp), itv = .ref it ∧ Inv X pins σ H' s2 ∧ Turn X.prog X.w X.K tg J fp it tn ∧ tn 0 s2.heap ∧ (∀ b ∈ fp, FpOk X pins H' b) ∧ R J H'
def PI (X : Cx) (tg iter : Expr) (wi : TI) : Prop :=
  ∀ (pins : List (Addr × Obj)) (s : Shared) (σ : St) (H : Hp) (R : It → Hp → Prop), Inv X pins σ H s → wi σ H R →
    wpAny (model X.prog X.w) X.A (eval iter X.env) (fun v s1 => wpAny (model X.prog X.w) X.A (pyIter v) (PIE X pins σ tg R) X.xe s1) X.xe s
theorem go_of {M : Model} {A : Around} {E : Value → Shared → Prop} {s : Shared} {tg : Expr} {it : Addr} {u : Value} {o : Obj} {n : String} {vs : Array Value} {Q : Unit → Shared → Prop} (ho : s.heap.get? it = some o) (hc : o.cls = .type n) (hd : o.data = .fields vs)
    (hn : ["enumerate", "zip", "dict_itemiterator", "dict_reverseitemiterator", "odict_iterator", "itertools.zip_longest", "itertools.pairwise"].contains n = false) (hQ : Q () s) : wpAny M A (letOwnedTupleGo tg (.ref it) u) Q E s := by
  unfold letOwnedTupleGo
  cases tg <;> first
    | exact wpAny_pure hQ
    | (cases u <;> first
        | exact wpAny_pure hQ
        | (refine wpAny_bind (wpAny_load ho ?_)
           rw [hc, hd]
           show wpAny M A (if (["enumerate", "zip", "dict_itemiterator", "dict_reverseitemiterator", "odict_iterator", "itertools.zip_longest", "itertools.pairwise"].contains n && vs[0]? == some (rawInt _)) = true then _ else _) Q E s
           rw [if_neg (by intro h; rw [hn, Bool.false_and] at h; cases h)]
           exact wpAny_pure hQ))
def Itl (K : PySem.W.Frag) (a : Addr) : It :=
  ⟨fun i H => ∃ xs x, SqL K H a xs ∧ xs[i]? = some x, fun i H x H' => H' = H ∧ ∀ xs, SqL K H a xs → xs[i]? = some x, fun i H => ∃ xs, SqL K H a xs ∧ xs.length ≤ i⟩
def Itr (lo : Int) (n : Nat) : It := ⟨fun i _ => i < n, fun i H x H' => H' = H ∧ x = .int (lo + i), fun i _ => n ≤ i⟩
theorem turn_list {P : Program} {w : World} {K : PySem.W.Frag} {tg : Expr} (a it : Addr) : Turn P w K tg (Itl K a) [it] it (fun i h => h.IsListIter it a i) where
  mem := by simp
  obj := fun i h st b hb => by
    have e : b = it := by simpa using hb
    subst e
    obtain ⟨o, e, c, d⟩ := st
    exact ⟨o, e, fun v z => by rw [d] at z; cases z⟩
  keep := fun i h h' st k => st.at fun o e => k it (by simp) o e
  item := by
    intro X hP hw hK hc i pins s σ H E I hf st hg
    subst hP hw hK
    obtain ⟨xs, x, hq, hx⟩ := hg
    obtain ⟨its, rv, p, hz⟩ := I.list hq
    obtain ⟨u, hu, ru⟩ := rv.get hx
    obtain ⟨f0, f1, f2, f3, f4, f5⟩ := hf it (by simp)
    refine wpAny_pyNext_list_item st p.isList (x := u) (by simpa using hu) fun h' st' sb => ?_
    have I1 : Inv X pins σ H { s with heap := h' } := I.turned (t' := s.toks) (fun b o hb e => (sb.2 b hb).trans e) f0 f1 f3 f4 f5
    obtain ⟨o, e, c, d⟩ := id st'
    exact ⟨u, rfl, go_of (s := { s with heap := h' }) e c d (by decide) ⟨x, H, I1, ru, ⟨rfl, fun ys hy => by rw [I.list_inj hy hq]; exact hx⟩, st', fun b hb => (hf b hb).1⟩⟩
  done := by
    intro X hP hw hK hc i pins s σ H E I hf st hg
    subst hP hw hK
    obtain ⟨xs, hq, hx⟩ := hg
    obtain ⟨its, rv, p, hz⟩ := I.list hq
    obtain ⟨f0, f1, f2, f3, f4, f5⟩ := hf it (by simp)
    have hl := rv.length
    exact wpAny_pyNext_list_end (I.ok.hd hc) st p.isList (by simp; omega) fun h' eb => ⟨rfl, I.turned (t' := s.toks) (fun b o hb e => eb b o hb e) f0 f1 f3 f4 f5⟩
  self := fun _ _ _ _ _ st h => wpAny_pyIter_listiter st h
theorem turn_range {P : Program} {w : World} {K : PySem.W.Frag} {tg : Expr} (it : Addr) (lo : Int) (n : Nat) : Turn P w K tg (Itr lo n) [it] it (fun i h => IsRangeIter h it (lo + (i : Nat) * 1) ((n : Int) - (i : Nat)) 1) where
  mem := by simp
  obj := fun i h st b hb => by
    have e : b = it := by simpa using hb
    subst e
    exact ⟨_, st, fun v z => by
      have z' : Data.fields _ = Data.cell v := z
      cases z'⟩
  keep := fun i h h' st k => k it (by simp) _ st
  item := by
    intro X hP hw hK hc i pins s σ H E I hf st hg
    subst hP hw hK
    obtain ⟨f0, f1, f2, f3, f4, f5⟩ := hf it (by simp)
    have W := Walks.range (prog := X.prog) (w := X.w) (I.ok.hd hc) it lo 1 n
    refine W.item i s _ _ hg st fun v h' tk hv st' kk => ?_
    obtain ⟨t, rfl⟩ := hv
    have I1 : Inv X pins σ H { s with heap := h', toks := tk } := I.turned (fun b o hb e => kk b o (by simpa using hb) e) f0 f1 f3 f4 f5
    refine ⟨_, rfl, go_of (s := { s with heap := h', toks := tk }) (n := "range_iterator") st' rfl rfl (by decide) ⟨.int (lo + i), H, I1, ⟨t, ?_⟩, ⟨rfl, rfl⟩, st', fun b hb => (hf b hb).1⟩⟩
    rw [Int.mul_one]
  done := by
    intro X hP hw hK hc i pins s σ H E I hf st hg
    subst hP hw hK
    obtain ⟨f0, f1, f2, f3, f4, f5⟩ := hf it (by simp)
    exact wpAny_pyNext_range_end (I.ok.hd hc) st (by have : n ≤ i := hg; omega) fun h' eb => ⟨rfl, I.turned (t' := s.toks) (fun b o hb e => eb b o hb e) f0 f1 f3 f4 f5⟩
  self := fun _ _ _ _ _ st h => wpAny_pyIter_rangeiter st h
end L2
namespace L2
open PySem PySem.Spec PyProof.Rows
section
variable {X : Cx} {tg : Expr}
def iList (K : PySem.W.Frag) (tl : TE) : TI := fun σ H R => tl σ H fun x H1 => ∃ a, x = .ref a ∧ (∃ xs, SqL K H1 a xs) ∧ R (Itl K a) H1
theorem pi_list {l : Expr} {tl : TE} (hl : PE X l tl) : PI X tg l (iList X.K tl) := by
  intro pins s σ H R I h
  refine thn (hl pins s σ H _ I h) fun v s1 ⟨x, H1, I1, r1, q1⟩ => ?_
  obtain ⟨a, e, ⟨xs, hq⟩, q⟩ := q1
  subst e
  cases r1
  obtain ⟨its, rv, p, hz⟩ := I1.list hq
  refine wpAny_pyIter_list p.isList ?_
  refine ⟨s1.heap.objs.size, [s1.heap.objs.size], _, _, H1, rfl, I1.kept (t' := s1.toks) fun b o e => Heap.get?_push_of_some _ e, turn_list a _, ⟨_, Heap.get?_push_size _ rfl, rfl, rfl⟩, fun b hb => ?_, q⟩
  have e : b = s1.heap.objs.size := by simpa using hb
  subst e
  exact I1.fpOk (Nat.le_refl _) (I1.hok.fresh (Nat.le_refl _))
theorem range_it {pins : List (Addr × Obj)} {σ : St} {H : Hp} {s : Shared} {R : It → Hp → Prop} {E : Value → Shared → Prop} {lo hi : Int} {t u v : Tok} {tk : Nat} (I : Inv X pins σ H s) (h1 : -(2 ^ 62) ≤ lo) (h2 : lo < 2 ^ 62) (h3 : -(2 ^ 62) ≤ hi) (h4 : hi < 2 ^ 62)
    (q : R (Itr lo (hi - lo).toNat) H) : wpAny (model X.prog X.w) X.A (pyIter (.ref s.heap.objs.size)) (PIE X pins σ tg R) E { s with heap := s.heap.push { cls := .type "range", data := .fields #[.int lo t, .int hi u, .int 1 v] }, toks := tk } := by
  refine wpAny_pyIter_range (IsRange.new ..) (small_one h1 h2 h3 h4) ?_
  have I1 : Inv X pins σ H { s with heap := s.heap.push { cls := .type "range", data := .fields #[.int lo t, .int hi u, .int 1 v] }, toks := tk } := I.kept fun b o e => Heap.get?_push_of_some _ e
  refine ⟨(s.heap.push { cls := .type "range", data := .fields #[.int lo t, .int hi u, .int 1 v] }).objs.size, [(s.heap.push { cls := .type "range", data := .fields #[.int lo t, .int hi u, .int 1 v] }).objs.size], _, _, H, rfl,
    I1.kept (t' := tk) fun b o e => Heap.get?_push_of_some _ e, turn_range _ lo (hi - lo).toNat, ?_, fun b hb => ?_, q⟩
  · have e1 : lo + ((0 : Nat) : Int) * 1 = lo := by simp
    have e2 : (((hi - lo).toNat : Nat) : Int) - ((0 : Nat) : Int) = Builtin.Range.rangeSize lo hi 1 := by rw [rangeSize_one]; split <;> omega
    show IsRangeIter _ _ (lo + ((0 : Nat) : Int) * 1) ((((hi - lo).toNat : Nat) : Int) - ((0 : Nat) : Int)) 1
    rw [e1, e2]
    exact Heap.get?_push_size _ rfl
  · have e : b = (s.heap.push { cls := .type "range", data := .fields #[.int lo t, .int hi u, .int 1 v] }).objs.size := by simpa using hb
    subst e
    exact I1.fpOk (Nat.le_refl _) (I1.hok.fresh (Nat.le_refl _))
def iRng1 (ta : TA) : TI := fun σ H R => ta σ H fun vs H1 => ∃ j : Int, vs = [.int j] ∧ -(2 ^ 62) ≤ j ∧ j < 2 ^ 62 ∧ R (Itr 0 j.toNat) H1
def iRng2 (ta : TA) : TI := fun σ H R => ta σ H fun vs H1 => ∃ i j : Int, vs = [.int i, .int j] ∧ (-(2 ^ 62) ≤ i ∧ i < 2 ^ 62 ∧ -(2 ^ 62) ≤ j ∧ j < 2 ^ 62) ∧ R (Itr i (j - i).toNat) H1
theorem pi_range1 {a : Expr} {ta : TA} {p pos : Pos} (hg : Gl X "range") (hm : X.mg "range" = none) (ha : PA X [a] ta) (hs : starEach [a] X.env = [(false, eval a X.env)] := by rfl) : PI X tg (.Call (.Name "range" p) [a] [] pos) (iRng1 ta) := by
  intro pins s σ H R I h
  refine Call_ (ld_blt I hg hm boot_range (PyProof.Rows.callWith_type1 (thn (ha pos pins s σ H _ I h) fun us s1 ⟨vs, H1, I1, r1, q1⟩ => ?_) hs rfl))
  obtain ⟨j, e, q1, q2, q⟩ := q1
  subst e
  cases r1 with
  | cons r rr =>
    cases rr
    obtain ⟨t, rfl⟩ := r
    exact call_range_1 (range_it I1 (by omega) (by omega) q1 q2 (by simpa using q))
theorem pi_range2 {a b : Expr} {ta : TA} {p pos : Pos} (hg : Gl X "range") (hm : X.mg "range" = none) (ha : PA X [a, b] ta) (hs : starEach [a, b] X.env = [(false, eval a X.env), (false, eval b X.env)] := by rfl) (hs2 : starEach [b] X.env = [(false, eval b X.env)] := by rfl) :
    PI X tg (.Call (.Name "range" p) [a, b] [] pos) (iRng2 ta) := by
  intro pins s σ H R I h
  refine Call_ (ld_blt I hg hm boot_range (PyProof.Rows.callWith_type1 (thn (ha pos pins s σ H _ I h) fun us s1 ⟨vs, H1, I1, r1, q1⟩ => ?_) (by rw [hs, hs2]) (by rw [hs2]; rfl)))
  obtain ⟨i, j, e, ⟨q1, q2, q3, q4⟩, q⟩ := q1
  subst e
  cases r1 with
  | cons r rr =>
    cases rr with
    | cons r' rr =>
      cases rr
      obtain ⟨t, rfl⟩ := r
      obtain ⟨t', rfl⟩ := r'
      exact call_range_2 (range_it I1 q1 q2 q3 q4 q)
def tFor (wi : TI) (g : TG) (tb : TS) : TS := fun D σ H => wi σ H fun J H1 => ∃ W : Nat → Nat → St → Hp → Prop, (∃ m, W 0 m σ H1) ∧ ∀ i m σ H, W i m σ H →
  (J.stop i H ∧ D.nx σ H) ∨ (J.go i H ∧ ∃ N : St → Hp → Prop, (∀ σ' H', N σ' H' → ∃ m', m' < m ∧ W (i + 1) m' σ' H') ∧ ∀ x H', J.yld i H x H' → g x σ H' fun σ2 H2 => tb { D with nx := N, ct := N, bk := D.nx } σ2 H2)
def pinsAt (fp : List Addr) (h : Heap) : List (Addr × Obj) := fp.filterMap fun b => (h.get? b).map fun o => (b, o)
theorem mem_pinsAt {fp : List Addr} {h : Heap} {b : Addr} {o : Obj} (hb : b ∈ fp) (e : h.get? b = some o) : (b, o) ∈ pinsAt fp h := List.mem_filterMap.mpr ⟨b, hb, by rw [e]; rfl⟩
theorem of_pinsAt {fp : List Addr} {h : Heap} {p : Addr × Obj} (hp : p ∈ pinsAt fp h) : p.1 ∈ fp ∧ h.get? p.1 = some p.2 := by
  obtain ⟨b, hb, e⟩ := List.mem_filterMap.mp hp
  cases q : h.get? b with
  | none => rw [q] at e; cases e
  | some o =>
    rw [q] at e
    have e' : (b, o) = p := Option.some.inj e
    subst e'
    exact ⟨hb, q⟩
theorem Inv.pinned {pins : List (Addr × Obj)} {σ : St} {H : Hp} {s : Shared} {fp : List Addr} (I : Inv X pins σ H s) (hf : ∀ b ∈ fp, FpOk X pins H b) (ho : ∀ b ∈ fp, ∃ o, s.heap.get? b = some o ∧ ∀ v, o.data ≠ .cell v) : Inv X (pins ++ pinsAt fp s.heap) σ H s :=
  I.pins_of fun p hp => (List.mem_append.mp hp).elim (fun z => I.pin p (List.mem_append_right _ z)) fun z => by
    obtain ⟨hb, e⟩ := of_pinsAt z
    obtain ⟨f0, f1, f2, _⟩ := hf p.1 hb
    obtain ⟨o, e', d⟩ := ho p.1 hb
    rw [e] at e'; cases e'
    exact ⟨e, f0, f1, f2, d⟩
theorem Inv.unpinned {pins pl : List (Addr × Obj)} {σ : St} {H : Hp} {s : Shared} (I : Inv X (pins ++ pl) σ H s) : Inv X pins σ H s := I.pins_of fun p hp => I.pin p (List.mem_append_right _ (List.mem_append_left _ hp))
theorem ps_for {iter : Expr} {body : List Stmt} {wi : TI} {g : TG} {tb : TS} {pos : Pos} (hp : PassesOwn (model X.prog X.w) X.A X.env X.xe) (hc : X.calm = true) (hi : PI X tg iter wi) (hg : PG X tg g) (hb : PSs X body tb)
    (hs : ∀ x, foldedSetIterable iter X.env x = pure x := by intro _; rfl) : PS X (.For tg iter body [] pos) (tFor wi g tb) := by
  intro pins s σ H D I h
  refine wpAny_For (thn (hi pins s σ H _ I h) fun v s1 h1 => thn h1 fun itv s2 h2 => ?_) hs
  obtain ⟨it, fp, tn, J, H2, e, I2, T, st2, f2, W, ⟨m0, w0⟩, turn⟩ := h2
  subst e
  -- what stays true of the iterator's objects through the loop
  have stat : ∀ {H' : Hp}, (∀ b ∈ fp, H' b = none) → ∀ b ∈ fp, FpOk X pins H' b := fun hn b hb => ⟨hn b hb, (f2 b hb).2⟩
  refine codeAny_forLoop_any (fun n s' => ∃ i σ' H', Inv X pins σ' H' s' ∧ tn i s'.heap ∧ (∀ b ∈ fp, H' b = none) ∧ W i n σ' H') ?_ m0 ⟨0, σ, H2, I2, st2, fun b hb => (f2 b hb).1, w0⟩
  rintro n s3 ⟨i, σ3, H3, I3, st3, fr3, w3⟩
  rcases turn i n σ3 H3 w3 with ⟨stop, qn⟩ | ⟨go, N, hN, step⟩
  · refine wpAny_passesOwn hp (thn (T.done X rfl rfl rfl hc i pins s3 σ3 H3 X.xe I3 (stat fr3) st3 stop) fun r s4 ⟨hr, I4⟩ => ?_)
    subst hr
    exact wpAny_execs_nil ⟨σ3, H3, I4, qn⟩
  · refine wpAny_passesOwn hp (thn (T.item X rfl rfl rfl hc i pins s3 σ3 H3 X.xe I3 (stat fr3) st3 go) fun r s4 ⟨u, hr, h4⟩ => ?_)
    subst hr
    refine wpAny_passesOwn hp (thn h4 fun _ s5 ⟨x, H5, I5, r5, y5, st5, fr5⟩ => ?_)
    have I5' := I5.pinned (stat fr5) (T.obj _ _ st5)
    refine wpAny_passesOwn hp (thn (hg _ s5 σ3 H5 x u _ I5' r5 (step x H5 y5)) fun _ s6 ⟨σ6, H6, I6, q6⟩ => ?_)
    refine wpAny_passesOwn hp (thn (hb _ s6 σ6 H6 _ I6 q6) fun f s7 q7 => ?_)
    have again : ∀ {σ7 : St} {H7 : Hp}, Inv X (pins ++ pinsAt fp s5.heap) σ7 H7 s7 → N σ7 H7 → ∃ m, m < n ∧ ∃ i σ' H', Inv X pins σ' H' s7 ∧ tn i s7.heap ∧ (∀ b ∈ fp, H' b = none) ∧ W i m σ' H' := fun {σ7 H7} I7 n7 => by
      obtain ⟨m', hm, w7⟩ := hN σ7 H7 n7
      refine ⟨m', hm, i + 1, σ7, H7, I7.unpinned, T.keep _ _ _ st5 fun b hb o e => (I7.pin (b, o) (List.mem_append_right _ (List.mem_append_right _ (mem_pinsAt hb e)))).1, fun b hb => ?_, w7⟩
      obtain ⟨o, e, d⟩ := T.obj _ _ st5 b hb
      exact (I7.pin (b, o) (List.mem_append_right _ (List.mem_append_right _ (mem_pinsAt hb e)))).2.1
    cases f with
    | next => obtain ⟨σ7, H7, I7, n7⟩ := q7; exact again I7 n7
    | cont => obtain ⟨σ7, H7, I7, n7⟩ := q7; exact again I7 n7
    | brk => obtain ⟨σ7, H7, I7, q7⟩ := q7; exact ⟨σ7, H7, I7.unpinned, q7⟩
    | ret v => obtain ⟨x7, σ7, H7, I7, r7, q7⟩ := q7; exact ⟨x7, σ7, H7, I7.unpinned, r7, q7⟩
end
theorem for_list {K : PySem.W.Frag} {a : Addr} {xs : List V} {g : TG} {tb : TS} {D : Ends} {σ : St} {H : Hp} (Pv : Nat → St → Hp → Prop) (h0 : Pv 0 σ H) (hl : ∀ i σ H, i ≤ xs.length → Pv i σ H → SqL K H a xs)
    (hs : ∀ i x σ H, xs[i]? = some x → Pv i σ H → g x σ H fun σ2 H2 => tb { D with nx := Pv (i + 1), ct := Pv (i + 1), bk := D.nx } σ2 H2) (hd : ∀ σ H, Pv xs.length σ H → D.nx σ H) :
    ∃ W : Nat → Nat → St → Hp → Prop, (∃ m, W 0 m σ H) ∧ ∀ i m σ H, W i m σ H →
      ((Itl K a).stop i H ∧ D.nx σ H) ∨ ((Itl K a).go i H ∧ ∃ N : St → Hp → Prop, (∀ σ' H', N σ' H' → ∃ m', m' < m ∧ W (i + 1) m' σ' H') ∧ ∀ x H', (Itl K a).yld i H x H' → g x σ H' fun σ2 H2 => tb { D with nx := N, ct := N, bk := D.nx } σ2 H2) := by
  refine ⟨fun i m σ H => m = xs.length - i ∧ i ≤ xs.length ∧ Pv i σ H, ⟨xs.length, by simp, Nat.zero_le _, h0⟩, ?_⟩
  rintro i m σ H ⟨rfl, hi, p⟩
  have q := hl i σ H hi p
  by_cases hlt : i < xs.length
  · refine .inr ⟨⟨xs, xs[i], q, by simp [hlt]⟩, Pv (i + 1), fun σ' H' p' => ⟨xs.length - (i + 1), by omega, rfl, hlt, p'⟩, fun x H' y => ?_⟩
    obtain ⟨e, y⟩ := y
    subst e
    exact hs i x σ _ (y xs q) p
  · have e : i = xs.length := by omega
    subst e
    exact .inl ⟨⟨xs, q, Nat.le_refl _⟩, hd σ H p⟩
theorem for_range {lo : Int} {n : Nat} {g : TG} {tb : TS} {D : Ends} {σ : St} {H : Hp} (Pv : Nat → St → Hp → Prop) (h0 : Pv 0 σ H)
    (hs : ∀ i σ H, i < n → Pv i σ H → g (.int (lo + i)) σ H fun σ2 H2 => tb { D with nx := Pv (i + 1), ct := Pv (i + 1), bk := D.nx } σ2 H2) (hd : ∀ σ H, Pv n σ H → D.nx σ H) :
    ∃ W : Nat → Nat → St → Hp → Prop, (∃ m, W 0 m σ H) ∧ ∀ i m σ H, W i m σ H →
      ((Itr lo n).stop i H ∧ D.nx σ H) ∨ ((Itr lo n).go i H ∧ ∃ N : St → Hp → Prop, (∀ σ' H', N σ' H' → ∃ m', m' < m ∧ W (i + 1) m' σ' H') ∧ ∀ x H', (Itr lo n).yld i H x H' → g x σ H' fun σ2 H2 => tb { D with nx := N, ct := N, bk := D.nx } σ2 H2) := by
  refine ⟨fun i m σ H => m = n - i ∧ i ≤ n ∧ Pv i σ H, ⟨n, by simp, Nat.zero_le _, h0⟩, ?_⟩
  rintro i m σ H ⟨rfl, hi, p⟩
  by_cases hlt : i < n
  · refine .inr ⟨hlt, Pv (i + 1), fun σ' H' p' => ⟨n - (i + 1), by omega, rfl, hlt, p'⟩, fun x H' y => ?_⟩
    obtain ⟨e, y⟩ := y
    subst e y
    exact hs i σ _ hlt p
  · have e : i = n := by omega
    subst e
    exact .inl ⟨Nat.le_refl _, hd σ H p⟩
end L2
namespace L2
open PySem PySem.Spec PyProof.Rows
abbrev R2 := V → V → Hp → VK → Prop
def OpR (X : Cx) (f : Value → Value → Sem Value) (r : R2) : Prop :=
  ∀ (pins : List (Addr × Obj)) (s : Shared) (σ : St) (H : Hp) (x y : V) (v u : Value) (Q : VK), Inv X pins σ H s → RelV x v → RelV y u → r x y H Q →
    wpAny (model X.prog X.w) X.A (f v u) (EP X pins σ Q) X.xe s
def UnR (X : Cx) (f : Value → Sem Value) (r : V → Hp → VK → Prop) : Prop :=
  ∀ (pins : List (Addr × Obj)) (s : Shared) (σ : St) (H : Hp) (x : V) (v : Value) (Q : VK), Inv X pins σ H s → RelV x v → r x H Q →
    wpAny (model X.prog X.w) X.A (f v) (EP X pins σ Q) X.xe s
def CallR (X : Cx) (f : Value) (r : List V → Hp → VK → Prop) : Prop :=
  ∀ (pins : List (Addr × Obj)) (s : Shared) (σ : St) (H : Hp) (xs : List V) (us : List Value) (Q : VK), Inv X pins σ H s → Vals xs us → r xs H Q →
    wpAny (model X.prog X.w) X.A (call f us) (EP X pins σ Q) X.xe s
def TruR (X : Cx) (r : V → Hp → (Bool → Hp → Prop) → Prop) : Prop :=
  ∀ (pins : List (Addr × Obj)) (s : Shared) (σ : St) (H : Hp) (x : V) (v : Value) (Q : Bool → Hp → Prop), Inv X pins σ H s → RelV x v → r x H Q →
    wpAny (model X.prog X.w) X.A (truthy v) (TP X pins σ Q) X.xe s
def tOp (r : R2) (ta tb : TE) : TE := fun σ H Q => ta σ H fun x H1 => tb σ H1 fun y H2 => r x y H2 Q
def tUn (r : V → Hp → VK → Prop) (ta : TE) : TE := fun σ H Q => ta σ H fun x H1 => r x H1 Q
def rI (C : Int → Int → Prop) (g : Int → Int → V) : R2 := fun x y H Q => ∃ i j, x = .int i ∧ y = .int j ∧ C i j ∧ Q (g i j) H
def rI0 (g : Int → Int → V) : R2 := fun x y H Q => ∃ i j, x = .int i ∧ y = .int j ∧ Q (g i j) H
def rU (g : Int → V) : V → Hp → VK → Prop := fun x H Q => ∃ i, x = .int i ∧ Q (g i) H
section
variable {X : Cx} {a b c : Expr} {ta tb tc : TE} {pos : Pos}
theorem binT (ha : PE X a ta) (hb : PE X b tb) {pins : List (Addr × Obj)} {s : Shared} {σ : St} {H : Hp} {R : V → V → Hp → Prop} (I : Inv X pins σ H s)
    (h : ta σ H fun x H1 => tb σ H1 fun y H2 => R x y H2) {Q : Value → Shared → Prop} {f : Value → Value → Sem Value}
    (hf : ∀ v u s2 x y H2, Inv X pins σ H2 s2 → RelV x v → RelV y u → R x y H2 → wpAny (model X.prog X.w) X.A (f v u) Q X.xe s2) :
    wpAny (model X.prog X.w) X.A (eval a X.env) (fun v s₁ => wpAny (model X.prog X.w) X.A (eval b X.env) (fun u s₂ => wpAny (model X.prog X.w) X.A (f v u) Q X.xe s₂) X.xe s₁) X.xe s := by
  refine thn (ha pins s σ H _ I h) fun v s1 ⟨x, H1, I1, r1, q1⟩ => ?_
  refine thn (hb pins s1 σ H1 _ I1 q1) fun u s2 ⟨y, H2, I2, r2, q2⟩ => ?_
  exact hf v u s2 x y H2 I2 r1 r2 q2
theorem pe_op {op : Operator} {r : R2} (ho : OpR X (binaryOp op) r) (ha : PE X a ta) (hb : PE X b tb) : PE X (.BinOp a op b pos) (tOp r ta tb) := by
  intro pins s σ H Q I h
  exact wpAny_BinOp (binT ha hb I h fun v u s2 x y H2 I2 rx ry q => ho pins s2 σ H2 x y v u Q I2 rx ry q)
theorem pe_un {op : UnaryOp} {r : V → Hp → VK → Prop} (ho : UnR X (unaryOp op) r) (ha : PE X a ta) : PE X (.UnaryOp op a pos) (tUn r ta) := by
  intro pins s σ H Q I h
  exact UnaryOp_ (thn (ha pins s σ H _ I h) fun v s1 ⟨x, H1, I1, r1, q1⟩ => ho pins s1 σ H1 x v Q I1 r1 q1)
theorem opI {f : Value → Value → Sem Value} {C : Int → Int → Prop} {g : Int → Int → Int}
    (rule : ∀ (i j : Int) (t u : Tok) (s : Shared) (Q : Value → Shared → Prop) (E : Value → Shared → Prop), C i j → Q (.int (g i j) s.toks) { s with toks := s.toks + 1 } → wpAny (model X.prog X.w) X.A (f (.int i t) (.int j u)) Q E s) :
    OpR X f (rI C fun i j => .int (g i j)) := by
  intro pins s σ H x y v u Q I rx ry h
  obtain ⟨i, j, rfl, rfl, hc, q⟩ := h
  obtain ⟨t, rfl⟩ := rx
  obtain ⟨t', rfl⟩ := ry
  exact rule i j t t' s _ _ hc ⟨.int (g i j), H, I.tok _, ⟨_, rfl⟩, q⟩
theorem opI0 {f : Value → Value → Sem Value} {g : Int → Int → Int}
    (rule : ∀ (i j : Int) (t u : Tok) (s : Shared) (Q : Value → Shared → Prop) (E : Value → Shared → Prop), Q (.int (g i j) s.toks) { s with toks := s.toks + 1 } → wpAny (model X.prog X.w) X.A (f (.int i t) (.int j u)) Q E s) :
    OpR X f (rI0 fun i j => .int (g i j)) := by
  intro pins s σ H x y v u Q I rx ry h
  obtain ⟨i, j, rfl, rfl, q⟩ := h
  obtain ⟨t, rfl⟩ := rx
  obtain ⟨t', rfl⟩ := ry
  exact rule i j t t' s _ _ ⟨.int (g i j), H, I.tok _, ⟨_, rfl⟩, q⟩
theorem opB0 {f : Value → Value → Sem Value} {g : Int → Int → Bool}
    (rule : ∀ (i j : Int) (t u : Tok) (s : Shared) (Q : Value → Shared → Prop) (E : Value → Shared → Prop), Q (.bool (g i j)) s → wpAny (model X.prog X.w) X.A (f (.int i t) (.int j u)) Q E s) :
    OpR X f (rI0 fun i j => .bl (g i j)) := by
  intro pins s σ H x y v u Q I rx ry h
  obtain ⟨i, j, rfl, rfl, q⟩ := h
  obtain ⟨t, rfl⟩ := rx
  obtain ⟨t', rfl⟩ := ry
  exact rule i j t t' s _ _ ⟨.bl (g i j), H, I, rfl, q⟩
def CPow (i j : Int) : Prop := 0 ≤ j ∧ j ≤ 1000000 ∧ i.natAbs < 2 ^ 64
theorem two_pow_nn (k : Nat) : (0 : Int) ≤ 2 ^ k := by
  rw [two_pow_cast]
  exact Int.natCast_nonneg _
theorem op_add : OpR X (binaryOp .Add) (rI0 fun i j => .int (i + j)) := opI0 fun _ _ _ _ _ _ _ q => add_int q
theorem op_sub : OpR X (binaryOp .Sub) (rI0 fun i j => .int (i - j)) := opI0 fun _ _ _ _ _ _ _ q => sub_int q
theorem op_shl : OpR X (binaryOp .LShift) (rI CPow fun i j => .int (i * 2 ^ j.toNat)) := opI fun _ _ _ _ _ _ _ hc q => lshift_int_small hc.1 hc.2.1 hc.2.2 q
theorem op_shr : OpR X (binaryOp .RShift) (rI (fun _ j => 0 ≤ j) fun i j => .int (i / 2 ^ j.toNat)) := opI fun i j _ _ _ _ _ hc q =>
  rshift_int hc (by rw [Int.fdiv_eq_ediv_of_nonneg i (two_pow_nn _)]; exact q)
theorem op_and : OpR X (binaryOp .BitAnd) (rI0 fun i j => .int (Builtin.bitAnd i j)) := opI0 fun _ _ _ _ _ _ _ q => and_int q
theorem op_or : OpR X (binaryOp .BitOr) (rI0 fun i j => .int (Builtin.bitOr i j)) := opI0 fun _ _ _ _ _ _ _ q => or_int q
theorem op_xor : OpR X (binaryOp .BitXor) (rI0 fun i j => .int (Builtin.bitXor i j)) := opI0 fun _ _ _ _ _ _ _ q => xor_int q
theorem unI {f : Value → Sem Value} {g : Int → Int}
    (rule : ∀ (i : Int) (t : Tok) (s : Shared) (Q : Value → Shared → Prop) (E : Value → Shared → Prop), Q (.int (g i) s.toks) { s with toks := s.toks + 1 } → wpAny (model X.prog X.w) X.A (f (.int i t)) Q E s) :
    UnR X f (rU fun i => .int (g i)) := by
  intro pins s σ H x v Q I rx h
  obtain ⟨i, rfl, q⟩ := h
  obtain ⟨t, rfl⟩ := rx
  exact rule i t s _ _ ⟨.int (g i), H, I.tok _, ⟨_, rfl⟩, q⟩
theorem un_inv : UnR X (unaryOp .Invert) (rU fun i => .int (Builtin.bitNot i)) := unI fun _ _ _ _ _ q => invert_int q
end
def scal : V → V → Bool
  | .non, .non => true | .non, .int _ => true | .int _, .non => true | .non, .bl _ => true | .bl _, .non => true | .non, .str _ => true | .str _, .non => true
  | .int _, .int _ => true | .bl _, .bl _ => true | .str _, .str _ => true | .byt _, .byt _ => true
  | .int _, .str _ => true | .str _, .int _ => true | .bl _, .str _ => true | .str _, .bl _ => true
  | _, _ => false
def rEq : R2 := fun x y H Q => scal x y = true ∧ Q (.bl (decide (x = y))) H
def rNe : R2 := fun x y H Q => scal x y = true ∧ Q (.bl (!decide (x = y))) H
theorem dec_int {i j : Int} : decide (V.int i = V.int j) = (i == j) := by
  rw [Bool.eq_iff_iff]
  simp
theorem dec_bl {i j : Bool} : decide (V.bl i = V.bl j) = (i == j) := by
  rw [Bool.eq_iff_iff]
  simp
theorem dec_str {i j : Str} : decide (V.str i = V.str j) = (i == j) := by
  rw [Bool.eq_iff_iff]
  simp
theorem dec_byt {i j : Array UInt8} : decide (V.byt i = V.byt j) = (i.toList == j.toList) := by
  rw [Bool.eq_iff_iff]
  cases i
  cases j
  simp
section
variable {X : Cx} {a b c : Expr} {ta tb tc : TE} {pos : Pos}
theorem fin_bl {pins : List (Addr × Obj)} {σ : St} {H : Hp} {s : Shared} {Q : VK} {k k' : Bool} (I : Inv X pins σ H s) (q : Q (.bl k) H) (e : k = k') : EP X pins σ Q (.bool k') s := by
  subst e
  exact ⟨.bl k, H, I, rfl, q⟩
theorem op_eq : OpR X (compareOp .Eq) rEq := by
  intro pins s σ H x y v u Q I rx ry h
  obtain ⟨hs, q⟩ := h
  cases x with
  | non =>
    cases rx
    cases y with
    | non => cases ry; exact PySem.EqNone.eq_none_none (fin_bl I q (by simp))
    | bl j => cases ry; exact PySem.EqNone.eq_none_bool (fin_bl I q (by simp))
    | int j => obtain ⟨t', rfl⟩ := ry; exact PySem.EqNone.eq_none_int (fin_bl I q (by simp))
    | str j => obtain ⟨t', rfl⟩ := ry; exact PySem.EqNone.eq_none_str (fin_bl I q (by simp))
    | _ => exact absurd (show false = true from hs) Bool.false_ne_true
  | bl i =>
    cases rx
    cases y with
    | non => cases ry; exact PySem.EqNone.eq_bool_none (fin_bl I q (by simp))
    | bl j => cases ry; exact eq_bool (fin_bl I q dec_bl)
    | str j => obtain ⟨t', rfl⟩ := ry; exact PySem.EqMixed.eq_bool_str (fin_bl I q (by simp))
    | _ => exact absurd (show false = true from hs) Bool.false_ne_true
  | int i =>
    obtain ⟨t, rfl⟩ := rx
    cases y with
    | non => cases ry; exact PySem.EqNone.eq_int_none (fin_bl I q (by simp))
    | int j => obtain ⟨t', rfl⟩ := ry; exact eq_int (fin_bl I q dec_int)
    | str j => obtain ⟨t', rfl⟩ := ry; exact PySem.EqMixed.eq_int_str (fin_bl I q (by simp))
    | _ => exact absurd (show false = true from hs) Bool.false_ne_true
  | str i =>
    obtain ⟨t, rfl⟩ := rx
    cases y with
    | non => cases ry; exact PySem.EqNone.eq_str_none (fin_bl I q (by simp))
    | bl j => cases ry; exact PySem.EqMixed.eq_str_bool (fin_bl I q (by simp))
    | int j => obtain ⟨t', rfl⟩ := ry; exact PySem.EqMixed.eq_str_int (fin_bl I q (by simp))
    | str j => obtain ⟨t', rfl⟩ := ry; exact eq_str (fin_bl I q dec_str)
    | _ => exact absurd (show false = true from hs) Bool.false_ne_true
  | byt i =>
    obtain ⟨t, rfl⟩ := rx
    cases y with
    | byt j => obtain ⟨t', rfl⟩ := ry; exact PySem.W.eq_bytes (fin_bl I q dec_byt)
    | _ => exact absurd (show false = true from hs) Bool.false_ne_true
  | _ => cases y <;> exact absurd (show false = true from hs) Bool.false_ne_true
theorem op_ne : OpR X (compareOp .NotEq) rNe := by
  intro pins s σ H x y v u Q I rx ry h
  obtain ⟨hs, q⟩ := h
  cases x with
  | non =>
    cases rx
    cases y with
    | non => cases ry; exact PySem.EqNone.ne_none_none (fin_bl I q (by simp))
    | bl j => cases ry; exact PySem.EqNone.ne_none_bool (fin_bl I q (by simp))
    | int j => obtain ⟨t', rfl⟩ := ry; exact PySem.EqNone.ne_none_int (fin_bl I q (by simp))
    | str j => obtain ⟨t', rfl⟩ := ry; exact PySem.EqNone.ne_none_str (fin_bl I q (by simp))
    | _ => exact absurd (show false = true from hs) Bool.false_ne_true
  | bl i =>
    cases rx
    cases y with
    | non => cases ry; exact PySem.EqNone.ne_bool_none (fin_bl I q (by simp))
    | bl j => cases ry; exact ne_bool (fin_bl I q (congrArg not dec_bl))
    | str j => obtain ⟨t', rfl⟩ := ry; exact PySem.EqMixed.ne_bool_str (fin_bl I q (by simp))
    | _ => exact absurd (show false = true from hs) Bool.false_ne_true
  | int i =>
    obtain ⟨t, rfl⟩ := rx
    cases y with
    | non => cases ry; exact PySem.EqNone.ne_int_none (fin_bl I q (by simp))
    | int j => obtain ⟨t', rfl⟩ := ry; exact ne_int (fin_bl I q (congrArg not dec_int))
    | str j => obtain ⟨t', rfl⟩ := ry; exact PySem.EqMixed.ne_int_str (fin_bl I q (by simp))
    | _ => exact absurd (show false = true from hs) Bool.false_ne_true
  | str i =>
    obtain ⟨t, rfl⟩ := rx
    cases y with
    | non => cases ry; exact PySem.EqNone.ne_str_none (fin_bl I q (by simp))
    | bl j => cases ry; exact PySem.EqMixed.ne_str_bool (fin_bl I q (by simp))
    | int j => obtain ⟨t', rfl⟩ := ry; exact PySem.EqMixed.ne_str_int (fin_bl I q (by simp))
    | str j => obtain ⟨t', rfl⟩ := ry; exact ne_str (fin_bl I q (congrArg not dec_str))
    | _ => exact absurd (show false = true from hs) Bool.false_ne_true
  | byt i =>
    obtain ⟨t, rfl⟩ := rx
    cases y with
    | byt j => obtain ⟨t', rfl⟩ := ry; exact PySem.W.ne_bytes (fin_bl I q (congrArg not dec_byt))
    | _ => exact absurd (show false = true from hs) Bool.false_ne_true
  | _ => cases y <;> exact absurd (show false = true from hs) Bool.false_ne_true
theorem op_lt : OpR X (compareOp .Lt) (rI0 fun i j => .bl (decide (i < j))) := opB0 fun _ _ _ _ _ _ _ q => lt_int q
theorem op_le : OpR X (compareOp .LtE) (rI0 fun i j => .bl (decide (i ≤ j))) := opB0 fun _ _ _ _ _ _ _ q => le_int q
theorem op_gt : OpR X (compareOp .Gt) (rI0 fun i j => .bl (decide (j < i))) := opB0 fun _ _ _ _ _ _ _ q => gt_int q
theorem op_ge : OpR X (compareOp .GtE) (rI0 fun i j => .bl (decide (j ≤ i))) := opB0 fun _ _ _ _ _ _ _ q => ge_int q
theorem nomark (b : Expr) {op : CmpOp} (h : op ≠ .In := by decide) (h2 : op ≠ .NotIn := by decide) : behindInMarks op b = false := by
  have e1 : (op == CmpOp.In) = false := by cases op <;> first | rfl | exact absurd rfl h
  have e2 : (op == CmpOp.NotIn) = false := by cases op <;> first | rfl | exact absurd rfl h2
  cases b <;> simp [behindInMarks, e1, e2]
theorem pe_cmpR {op : CmpOp} {r : R2} (ho : OpR X (compareOp op) r) (ha : PE X a ta) (hb : PE X b tb) (hm : behindInMarks op b = false) : PE X (.Compare a [op] [b] pos) (tOp r ta tb) := by
  intro pins s σ H Q I h
  exact wpAny_Compare1 (binT ha hb I h fun v u s2 x y H2 I2 rx ry q => ho pins s2 σ H2 x y v u Q I2 rx ry q) hm
def tTest (t : TE) : TT := fun σ H Q => t σ H fun x H' => ∃ k, x = .bl k ∧ Q k H'
theorem pt_cmpR {op : CmpOp} {r : R2} (ho : OpR X (compareOp op) r) (ha : PE X a ta) (hb : PE X b tb) (hm : behindInMarks op b = false) : PT X (.Compare a [op] [b] pos) (tTest (tOp r ta tb)) := by
  intro pins s σ H Q I h
  refine wpAny_isTrue_Compare1 (thn (ha pins s σ H _ I h) fun v s1 ⟨x, H1, I1, r1, q1⟩ => thn (hb pins s1 σ H1 _ I1 q1) fun u s2 ⟨y, H2, I2, r2, q2⟩ =>
    thn (ho pins s2 σ H2 x y v u _ I2 r1 r2 q2) fun c s3 ⟨z, H3, I3, r3, k, e, q3⟩ => ?_) hm
  subst e
  cases r3
  exact wpAny_truthy_bool ⟨H3, I3, q3⟩
def tChain (r r' : R2) (ta tb tc : TE) : TE := fun σ H Q => ta σ H fun x H1 => tb σ H1 fun y H2 => r x y H2 fun z H3 => ∃ k, z = .bl k ∧
  (if k = true then tc σ H3 fun w' H4 => r' y w' H4 Q else Q (.bl false) H3)
theorem pt_chain {op op' : CmpOp} {r r' : R2} (ho : OpR X (compareOp op) r) (ho' : OpR X (compareOp op') r') (ha : PE X a ta) (hb : PE X b tb) (hc : PE X c tc)
    (hm : lastMarks [op, op'] [b, c] = false := by with_unfolding_all rfl) : PT X (.Compare a [op, op'] [b, c] pos) (tTest (tChain r r' ta tb tc)) := by
  intro pins s σ H Q I h
  refine isTrue_chain (thn (ha pins s σ H _ I h) fun v s1 ⟨x, H1, I1, r1, q1⟩ => test_link (thn (hb pins s1 σ H1 _ I1 q1) fun u s2 ⟨y, H2, I2, r2, q2⟩ =>
    thn (ho pins s2 σ H2 x y v u _ I2 r1 r2 q2) fun d s3 ⟨z, H3, I3, r3, k, e, q3⟩ => ?_)) hm
  subst e
  cases r3
  refine wpAny_truthy_bool ?_
  cases k with
  | false =>
    obtain ⟨k', e', q'⟩ := q3
    cases e'
    exact ite_ff ⟨H3, I3, q'⟩
  | true =>
    refine ite_tt (test_last (thn (hc pins s3 σ H3 _ I3 q3) fun w' s4 ⟨z', H4, I4, r4, q4⟩ => thn (ho' pins s4 σ H4 y z' u w' _ I4 r2 r4 q4) fun d' s5 ⟨z2, H5, I5, r5, k2, e2, q5⟩ => ?_))
    subst e2
    cases r5
    exact wpAny_truthy_bool ⟨H5, I5, q5⟩
def TruV (K : PySem.W.Frag) (x : V) (H : Hp) (k : Bool) : Prop :=
  match x with
  | .non => k = false
  | .bl b => k = b
  | .int i => k = (i != 0)
  | .str y => y.length ≤ sizeLine ∧ k = ((y.length : Int) != 0)
  | .byt y => y.size ≤ sizeLine ∧ k = ((y.size : Int) != 0)
  | .ref p => (∃ xs, SqL K H p xs ∧ k = !xs.isEmpty) ∨ (∃ xs, SqT K H p xs ∧ k = !xs.isEmpty) ∨ ∃ kvs, H p = some (.dK kvs) ∧ k = !kvs.isEmpty
  | _ => False
theorem isEmpty_kv {κ : Type} {kvs : List (κ × V)} {vs : List (κ × Value)} (r : KV kvs vs) : (!vs.isEmpty) = !kvs.isEmpty := by
  cases r <;> rfl
theorem isEmpty_of {xs : List V} {its : List Value} (r : Vals xs its) : (!its.toArray.isEmpty) = !xs.isEmpty := by
  cases r <;> simp
theorem line63 : (sizeLine : Nat) < 2 ^ 63 := by rw [sizeLine_eq]; decide
theorem tru_ok : TruR X (fun x H Q => ∃ k, TruV X.K x H k ∧ Q k H) := by
  intro pins s σ H x v Q I rx h
  obtain ⟨k, e, q⟩ := h
  have hl := line63
  have hs : sizeLine = 16777216 := sizeLine_eq
  cases x with
  | non =>
    cases rx
    have e' : k = false := e
    subst e'
    exact truthy_none ⟨H, I, q⟩
  | bl b =>
    cases rx
    have e' : k = b := e
    subst e'
    exact wpAny_truthy_bool ⟨H, I, q⟩
  | int i =>
    obtain ⟨t, rfl⟩ := rx
    have e' : k = (i != 0) := e
    subst e'
    exact PySem.P.truthy_int ⟨H, I, q⟩
  | str y =>
    obtain ⟨t, rfl⟩ := rx
    obtain ⟨hy, e'⟩ : y.length ≤ sizeLine ∧ k = ((y.length : Int) != 0) := e
    subst e'
    exact PySem.P.truthy_str (by omega) ⟨H, I.tok _, q⟩
  | byt y =>
    obtain ⟨t, rfl⟩ := rx
    obtain ⟨hy, e'⟩ : y.size ≤ sizeLine ∧ k = ((y.size : Int) != 0) := e
    subst e'
    exact PySem.W.truthy_bytes (by omega) ⟨H, I.tok _, q⟩
  | ref p =>
    cases rx
    have e' : (∃ xs, SqL X.K H p xs ∧ k = !xs.isEmpty) ∨ (∃ xs, SqT X.K H p xs ∧ k = !xs.isEmpty) ∨ ∃ kvs, H p = some (.dK kvs) ∧ k = !kvs.isEmpty := e
    rcases e' with ⟨xs, hx, e'⟩ | ⟨xs, hx, e'⟩ | ⟨kvs, hx, e'⟩
    · subst e'
      obtain ⟨its, r, pl, hz⟩ := I.list hx
      have hlen := r.length
      exact wpAny_truthy_list pl.isList (by simp only [List.size_toArray]; omega) ⟨H, I.tok _, by rw [isEmpty_of r]; exact q⟩
    · subst e'
      obtain ⟨its, r, pl, hz⟩ := I.tuple hx
      have hlen := r.length
      exact truthy_tuple pl (by simp only [List.size_toArray]; omega) ⟨H, I.tok _, by rw [isEmpty_of r]; exact q⟩
    · subst e'
      obtain ⟨hz, hS, vs, r, m⟩ : kvs.length ≤ sizeLine ∧ (p == sysModules) = false ∧ ∃ vs, KV kvs vs ∧ s.heap.DictOf (mixKind X.prog X.w) p vs := I.hok p _ hx
      have hlen : kvs.length = vs.length := Paired.length r
      exact wpAny_truthy_dict hS m (by omega) ⟨H, I.tok _, by rw [isEmpty_kv r]; exact q⟩
  | _ => exact (show False from e).elim
theorem pt_truth (ha : PE X a ta) (he : ∀ whole, isTrue a X.env whole = (do let v ← whole; standAt a.pos; holding [v] (truthy v))) :
    PT X a (fun σ H Q => ta σ H fun x H' => ∃ k, TruV X.K x H' k ∧ Q k H') := by
  intro pins s σ H Q I h
  exact isTrue_plain (thn (ha pins s σ H _ I h) fun v s1 ⟨x, H1, I1, r1, q1⟩ => tru_ok pins s1 σ H1 x v Q I1 r1 q1) (he _)
theorem vals1 {x : V} {us : List Value} (r : Vals [x] us) : ∃ u, us = [u] ∧ RelV x u := by
  cases r with
  | cons r1 r2 => cases r2; exact ⟨_, rfl, r1⟩
end
end L2
namespace L2
open PySem PySem.Spec PyProof.Rows
structure ObjM (h : Heap) (x dx C : Addr) (mA : Str → Option Value) : Prop where
  obj : h.get? x = some (PySem.W.instObj C dx)
  ns : h.Ns1 dx mA
  ne : dx ≠ x
theorem lookIn_ns {h : Heap} {dx : Addr} {mA : Str → Option Value} (n : h.Ns1 dx mA) : ∃ od, h.get? dx = some od ∧ ∀ name, PySem.W.lookIn name od = some (mA name) := by
  obtain ⟨o, es, ep, ho, hd, hk, _, hm⟩ := n
  refine ⟨o, ho, fun name => ?_⟩
  have e := hm name
  unfold nsFind findBy at e
  rw [← Array.find?_toList] at e
  unfold PySem.W.lookIn
  rw [hd]
  dsimp only
  split
  · rename_i y q
    rw [q] at e
    exact congrArg some e
  · rename_i q
    rw [q] at e
    have a : es.toList.any (·.refKey) = false := by
      rw [List.any_eq_false]
      intro y hy
      obtain ⟨z, t, hkey⟩ := hk y (Array.mem_toList_iff.mp hy)
      simp [DictEntry.refKey, hkey]
    have a' : ¬ es.toList.any (·.refKey) = true := by rw [a]; exact Bool.false_ne_true
    rw [if_neg a']
    exact congrArg some e
theorem ObjM.look {h : Heap} {x dx C : Addr} {mA : Str → Option Value} (I : ObjM h x dx C mA) : ∃ od, PySem.W.InstAt h x (PySem.W.instObj C dx) C (some od) ∧ ∀ name, PySem.W.lookIn name od = some (mA name) :=
  let ⟨od, ho, hl⟩ := lookIn_ns I.ns
  ⟨od, ⟨I.obj, rfl, rfl, ho⟩, hl⟩
section
variable {prog : Program} {w : World} {A : Around} {E : Value → Shared → Prop} {s : Shared} {K : PySem.W.Frag} {x dx C f : Addr} {mA : Str → Option Value} {name : Str} {v : Value}
theorem get_map {expr : Bool} {Q : Value → Shared → Prop} (X : K.In s.heap) (I : ObjM s.heap x dx C mA) (hg : PySem.W.plainGet K C name = true) (hh : PySem.W.hasDictIn K C = true)
    (ha : PySem.W.findIn K (.ref C) name = some none) (hv : mA name = some v) (hv' : PySem.W.handedIn v = true) (h : Q v { s with toks := s.toks + 1 }) :
    wpAny (model prog w) A (getAttr (.ref x) name expr) Q E s := by
  obtain ⟨od, J, hl⟩ := I.look
  exact PySem.W.get_value X J (PySem.W.plainGet_of hg).1 (PySem.W.findObj_own hh ha rfl (by rw [hl, hv])) hv' h
theorem get_meth {pl : Sem Bool} {Q : Value × List Value → Shared → Prop} (X : K.In s.heap) (I : ObjM s.heap x dx C mA) (hg : PySem.W.plainGet K C name = true)
    (hf : PySem.W.findIn K (.ref C) name = some (some (.ref f))) (ht : PySem.W.isFn K (.ref f) = true) (hv : mA name = none) (h : Q (.ref f, [.ref x]) s) :
    wpAny (model prog w) A (getMethod (.ref x) name pl) Q E s := by
  obtain ⟨od, J, hl⟩ := I.look
  exact PySem.W.method_fn X J (PySem.W.plainGet_of hg).1 (PySem.W.plainGet_of hg).2 hf (beq_iff_eq.mp ht) (by show (PySem.W.lookIn name od).map (·.isSome) = some false; rw [hl, hv]; rfl) h
theorem set_map {ns : List Str} {Q : Unit → Shared → Prop} (X : K.In s.heap) (I : ObjM s.heap x dx C mA)
    (hs : PySem.W.findIn K (.ref C) "__setattr__" = some (some (.builtin "object.__setattr__"))) (hp : PySem.W.plainOver K C = true) (ht : PySem.W.takerIn K C name = some none) (hh : PySem.W.hasDictIn K C = true)
    (hw : PySem.Within mA ns) (hsz : ns.length ≤ sizeLine)
    (h : ∀ h', ObjM h' x dx C (fun y => if y = name then some v else mA y) → Heap.SameBut dx s.heap h' → Q () { s with heap := h', toks := s.toks + 2 }) :
    wpAny (model prog w) A (setAttr (.ref x) name v) Q E s := by
  obtain ⟨od, J, hl⟩ := I.look
  refine PySem.W.set_plain X J hs (PySem.W.osa_open (s := { s with toks := s.toks + 1 }) (r := none) X J hp ht fun b => ?_)
  obtain ⟨cd, hc, hd'⟩ := PySem.W.any_some hh
  have hx : s.heap.get? x = some ⟨.ref C, some dx, .plain, #[]⟩ := I.obj
  refine wpAny_bind (wpAny_pure (wpAny_bind (wpAny_bind (wpAny_loadPart hx (wpAny_bind (PySem.W.Looks.here (s := { s with toks := s.toks + 1 }) (PySem.W.looks_clsIn X hc) ?_))))))
  rw [hd']
  refine wpAny_pure (a := some dx) (wpAny_bind (wpAny_pure (wpAny_bind ?_)))
  refine wpAny_nsSet1 (s := { s with toks := s.toks + 1 }) I.ns fun h' hn2 hs2 => ?_
  obtain ⟨oD, esD, epD, hoD, hdD, hcD⟩ := hn2.count (PySem.Within.cons name v hw)
  refine wpAny_bind (wpAny_lookBehind hoD (by rw [hdD]; exact pastItsLine_dict (Nat.le_trans hcD (by rw [List.length_cons]; omega))) ?_)
  exact wpAny_pure (h _ ⟨(hs2.2 _ (Ne.symm I.ne)).trans I.obj, hn2, I.ne⟩ hs2)
theorem make_map {R : Result → Shared → Prop} {vs : List Value} {kw : List (Str × Value)} (X : K.In s.heap) (hm : PySem.W.makesIn K C = true)
    (hi : PySem.W.findIn K (.ref C) "__init__" = some (some (.ref f))) (hf : PySem.W.typeIn K (.ref f) = some (.type "function"))
    (h : codeAny (model prog w) (A.under (.builtin "type.__call__" ⟨.ref C :: vs, kw⟩)) (.call (.ref f) ⟨.ref (s.heap.objs.size + 1) :: vs, kw⟩) (PySem.W.InitBack (s.heap.objs.size + 1) R)
      { s with heap := (s.heap.push PySem.W.emptyDict).push (PySem.W.instObj C s.heap.objs.size) }) :
    codeAny (model prog w) A (.call (.ref C) ⟨vs, kw⟩) R s := by
  obtain ⟨hh, g, d, t, os⟩ := s
  exact PySem.W.make_core (PySem.W.makes_of X hm) (PySem.W.looks_findIn X hi) (fun self => PySem.W.bind_fn X self hf) (.inl rfl) h
end
def putF (f : Str) (v : V) : List (Str × V) → List (Str × V)
  | [] => [(f, v)]
  | (g, x) :: r => if g = f then (g, v) :: r else (g, x) :: putF f v r
theorem lookup_putF (f g : Str) (v : V) : ∀ fs : List (Str × V), (putF f v fs).lookup g = if g = f then some v else fs.lookup g
  | [] => by
    show List.lookup g [(f, v)] = _
    by_cases h : g = f
    · have hb : (g == f) = true := beq_iff_eq.mpr h
      simp only [List.lookup, hb, if_pos h]
    · have hb : (g == f) = false := beq_eq_false_iff_ne.mpr h
      simp only [List.lookup, hb, if_neg h]
  | (k, x) :: r => by
    have ih := lookup_putF f g v r
    rw [show putF f v ((k, x) :: r) = (if k = f then (k, v) :: r else (k, x) :: putF f v r) from rfl]
    by_cases hk : k = f
    · rw [if_pos hk]
      by_cases h : g = k
      · have hb : (g == k) = true := beq_iff_eq.mpr h
        simp only [List.lookup, hb, if_pos (h.trans hk)]
      · have hb : (g == k) = false := beq_eq_false_iff_ne.mpr h
        simp only [List.lookup, hb, if_neg (fun e : g = f => h (e.trans hk.symm))]
    · rw [if_neg hk]
      by_cases h : g = k
      · have hb : (g == k) = true := beq_iff_eq.mpr h
        simp only [List.lookup, hb, if_neg (fun e : g = f => hk (h.symm.trans e))]
      · have hb : (g == k) = false := beq_eq_false_iff_ne.mpr h
        simp only [List.lookup, hb]
        exact ih
theorem keys_putF (f : Str) (v : V) : ∀ fs : List (Str × V), f ∈ (putF f v fs).map (·.1) ∧ ∀ g, g ∈ fs.map (·.1) → g ∈ (putF f v fs).map (·.1)
  | [] => ⟨by simp [putF], fun g h => by simp at h⟩
  | (k, x) :: r => by
    obtain ⟨i1, i2⟩ := keys_putF f v r
    rw [show putF f v ((k, x) :: r) = (if k = f then (k, v) :: r else (k, x) :: putF f v r) from rfl]
    by_cases hk : k = f
    · rw [if_pos hk]
      subst hk
      exact ⟨by simp, fun g h => by simpa using h⟩
    · rw [if_neg hk]
      refine ⟨?_, fun g h => ?_⟩
      · rw [List.map_cons]
        exact List.mem_cons_of_mem _ i1
      · rw [List.map_cons] at h ⊢
        rcases List.mem_cons.mp h with e | e
        · exact List.mem_cons.mpr (.inl e)
        · exact List.mem_cons_of_mem _ (i2 g e)
theorem length_putF (f : Str) (v : V) : ∀ fs : List (Str × V), (putF f v fs).length ≤ fs.length + 1
  | [] => by simp [putF]
  | (k, x) :: r => by
    have ih := length_putF f v r
    rw [show putF f v ((k, x) :: r) = (if k = f then (k, v) :: r else (k, x) :: putF f v r) from rfl]
    by_cases hk : k = f
    · rw [if_pos hk, List.length_cons, List.length_cons]; omega
    · rw [if_neg hk, List.length_cons, List.length_cons]; omega
theorem RelO.some_of {v : V} {o : Option Value} (r : RelO (some v) o) : ∃ u, o = some u ∧ RelV v u := by
  cases o with
  | none => exact (show False from r).elim
  | some u => exact ⟨u, rfl, r⟩
theorem RelO.none_of {o : Option Value} (r : RelO none o) : o = none := by
  cases o with
  | none => rfl
  | some u => exact (show False from r).elim
theorem handed_of {v : V} {u : Value} (r : RelV v u) : PySem.W.handedIn u = true := by
  cases v with
  | non => cases (show u = Value.none from r); rfl
  | bl b => cases (show u = Value.bool b from r); rfl
  | int i => obtain ⟨t, e⟩ := (show ∃ t, u = Value.int i t from r); cases e; rfl
  | str x => obtain ⟨t, e⟩ := (show ∃ t, u = Value.str x t from r); cases e; rfl
  | byt b => obtain ⟨t, e⟩ := (show ∃ t, u = Value.bytes b t from r); cases e; rfl
  | flt b => obtain ⟨t, e⟩ := (show ∃ t, u = Value.float b t from r); cases e; rfl
  | ref a => cases (show u = Value.ref a from r); rfl
  | ty n => cases (show u = Value.type n from r); rfl
section
variable {P : Program} {w : World} {H H' : Hp} {h h' : Heap} {a C dx : Addr} {fs fs' : List (Str × V)}
theorem ins_get (hok : HOk P w H h) (e : H a = some (.ins C dx fs)) : ∃ mA, ObjM h a dx C mA ∧ (∀ f, RelO (fs.lookup f) (mA f)) ∧ PySem.Within mA (fs.map (·.1)) ∧ fs.length ≤ 1000 ∧ H dx = some (.own a) := by
  obtain ⟨d, z, ne, ob, mA, n, r, q⟩ := (show ObjOk P w H h a (.ins C dx fs) from hok a _ e)
  exact ⟨mA, ⟨ob, n, ne⟩, r, q, z, d⟩
end
structure Cls (K : PySem.W.Frag) (C : Addr) : Prop where
  pg : PySem.W.plainGet K C Str.empty = true
  hd : PySem.W.hasDictIn K C = true
  po : PySem.W.plainOver K C = true
  sa : PySem.W.findIn K (.ref C) "__setattr__" = some (some (.builtin "object.__setattr__"))
theorem Cls.get {K : PySem.W.Frag} {C : Addr} (c : Cls K C) (f : Str) : PySem.W.plainGet K C f = true := c.pg
def NoAttr (K : PySem.W.Frag) (C : Addr) (f : Str) : Prop := PySem.W.findIn K (.ref C) f = some none
theorem NoAttr.taker {K : PySem.W.Frag} {C : Addr} {f : Str} (n : NoAttr K C f) : PySem.W.takerIn K C f = some none := by
  unfold PySem.W.takerIn
  rw [show PySem.W.findIn K (.ref C) f = some none from n]
  rfl
structure Meth (K : PySem.W.Frag) (C : Addr) (m : Str) (f : Addr) : Prop where
  at_ : PySem.W.findIn K (.ref C) m = some (some (.ref f))
  fn : PySem.W.isFn K (.ref f) = true
  kp : PySem.W.keepIn K (.ref f) = true
section
variable {X : Cx} {pins : List (Addr × Obj)} {σ : St} {H : Hp} {s : Shared} {a C dx : Addr} {fs : List (Str × V)} {f : Str} {v : V} {A : Around} {E : Value → Shared → Prop}
theorem getattr_ok {b : Bool} {Q : Value → Shared → Prop} (I : Inv X pins σ H s) (e : H a = some (.ins C dx fs)) (c : Cls X.K C) (n : NoAttr X.K C f) (l : fs.lookup f = some v)
    (h : ∀ u s', Inv X pins σ H s' → RelV v u → Q u s') : wpAny (model X.prog X.w) A (getAttr (.ref a) f b) Q E s := by
  obtain ⟨mA, O, r, _, _, _⟩ := ins_get I.hok e
  obtain ⟨u, hu, ru⟩ := RelO.some_of (v := v) (o := mA f) (by rw [← l]; exact r f)
  exact get_map I.kIn O (c.get f) c.hd n hu (handed_of ru) (h u _ (I.tok _) ru)
theorem getmeth_ok {m : Str} {g : Addr} {pl : Sem Bool} {Q : Value × List Value → Shared → Prop} (I : Inv X pins σ H s) (e : H a = some (.ins C dx fs)) (c : Cls X.K C) (k : Meth X.K C m g) (l : fs.lookup m = none)
    (h : Q (.ref g, [.ref a]) s) : wpAny (model X.prog X.w) A (getMethod (.ref a) m pl) Q E s := by
  obtain ⟨mA, O, r, _, _, _⟩ := ins_get I.hok e
  have hn : mA m = none := RelO.none_of (by rw [← l]; exact r m)
  exact get_meth I.kIn O (c.get m) k.at_ k.fn hn h
theorem setattr_ok {y : V} {u : Value} {Q : Unit → Shared → Prop} (I : Inv X pins σ H s) (e : H a = some (.ins C dx fs)) (c : Cls X.K C) (n : NoAttr X.K C f) (hl : fs.length < 1000) (ry : RelV y u)
    (h : ∀ s', Inv X pins σ (upd H a (.ins C dx (putF f y fs))) s' → Q () s') : wpAny (model X.prog X.w) A (setAttr (.ref a) f u) Q E s := by
  obtain ⟨mA, O, r, wi, _, ho⟩ := ins_get I.hok e
  have hz : (fs.map (·.1)).length ≤ sizeLine := by rw [List.length_map, sizeLine_eq]; omega
  refine set_map I.kIn O c.sa c.po n.taker c.hd wi hz fun h' O' sb => h _ ?_
  have hd : ∃ o, h'.get? dx = some o := let ⟨o, _, _, e', _⟩ := O'.ns; ⟨o, e'⟩
  refine I.write (x := a) (e := dx) (by rw [e]; exact True.intro) (.inr ho) (fun b q hb z => (sb.2 b hb).trans z) hd ?_
  refine ⟨by rw [upd_ne O.ne]; exact ho, ?_, O.ne, O'.obj, _, O'.ns, fun g => ?_, fun g hg => ?_⟩
  · have := length_putF f y fs; omega
  · show RelO ((putF f y fs).lookup g) (if g = f then some u else mA g)
    rw [lookup_putF]
    by_cases q : g = f
    · rw [if_pos q, if_pos q]; exact ry
    · rw [if_neg q, if_neg q]; exact r g
  · by_cases q : g = f
    · rw [q]; exact (keys_putF f y fs).1
    · refine (keys_putF f y fs).2 g (wi g fun z => hg ?_)
      show (if g = f then some u else mA g) = none
      rw [if_neg q]; exact z
theorem Inv.made (I : Inv X pins σ H s) : Inv X pins σ (upd (upd H s.heap.objs.size (.own (s.heap.objs.size + 1))) (s.heap.objs.size + 1) (.ins C s.heap.objs.size []))
    { s with heap := (s.heap.push PySem.W.emptyDict).push (PySem.W.instObj C s.heap.objs.size) } := by
  have e1 : (s.heap.push PySem.W.emptyDict).get? s.heap.objs.size = some PySem.W.emptyDict := Heap.get?_push_size s.heap rfl
  have e2 : ((s.heap.push PySem.W.emptyDict).push (PySem.W.instObj C s.heap.objs.size)).get? (s.heap.objs.size + 1) = some (PySem.W.instObj C s.heap.objs.size) := by
    have := Heap.get?_push_size (s.heap.push PySem.W.emptyDict) (o := PySem.W.instObj C s.heap.objs.size) rfl
    rwa [Heap.size_push] at this
  have e3 : (s.heap.push PySem.W.emptyDict).Ns s.heap.objs.size (fun _ => none) := ⟨PySem.W.emptyDict, #[], _, e1, rfl, (fun e he => absurd he (by simp)), fun _ => rfl⟩
  have I1 := I.laid (a := s.heap.objs.size) (o := .own (s.heap.objs.size + 1)) (h' := s.heap.push PySem.W.emptyDict) (t' := s.toks) (fun b u q => Heap.get?_push_of_some _ q) (Nat.le_refl _) ⟨_, e1⟩
  refine I1.laid (a := s.heap.objs.size + 1) (o := .ins C s.heap.objs.size []) (t' := s.toks) (fun b u q => Heap.get?_push_of_some _ q) (Nat.le_of_eq (Heap.size_push _ _)) ?_
  have ne : s.heap.objs.size ≠ s.heap.objs.size + 1 := Nat.ne_of_lt (Nat.lt_succ_self _)
  refine ⟨by rw [upd_ne ne, upd_same], Nat.zero_le _, ne, e2, fun _ => none, (Heap.Ns1.of_empty e3).at fun o q => Heap.get?_push_of_some _ q, fun _ => True.intro, fun y hy => absurd rfl hy⟩
theorem attr_of {prog : Program} {w : World} {env : Env} {e : Expr} {f : Str} {pos : Pos} {s : Shared} {Q : Value → Shared → Prop} (hb : attributeBase e f env (eval e env) = eval e env)
    (h : wpAny (model prog w) A (eval e env) (fun o s₁ => wpAny (model prog w) A (getAttr o f true) Q E s₁) E s) : wpAny (model prog w) A (eval (.Attribute e f pos) env) Q E s :=
  Attribute_any_ h (by rw [arm_eval_Attribute, hb])
end
def tFld (K : PySem.W.Frag) (ta : TE) (f : Str) : TE := fun σ H Q => ta σ H fun x H1 => ∃ a C dx fs v, x = .ref a ∧ H1 a = some (.ins C dx fs) ∧ Cls K C ∧ NoAttr K C f ∧ fs.lookup f = some v ∧ Q v H1
def sFld (K : PySem.W.Frag) (ta tv : TE) (f : Str) : TS := fun D σ H => tv σ H fun y H1 => ta σ H1 fun x H2 => ∃ a C dx fs, x = .ref a ∧ H2 a = some (.ins C dx fs) ∧ Cls K C ∧ NoAttr K C f ∧ fs.length < 1000 ∧
  D.nx σ (upd H2 a (.ins C dx (putF f y fs)))
section
variable {X : Cx} {o e value : Expr} {f : Str} {pos pos' tpos : Pos} {ta tv : TE}
theorem pe_fld (he : PE X e ta) (hb : attributeBase e f X.env (eval e X.env) = eval e X.env) : PE X (.Attribute e f pos) (tFld X.K ta f) := by
  intro pins s σ H Q I h
  refine attr_of hb (thn (he pins s σ H _ I h) fun u s1 ⟨x, H1, I1, rx, a, C, dx, fs, v, ex, ea, c, n, l, q⟩ => ?_)
  subst ex
  obtain rfl : u = Value.ref a := rx
  exact getattr_ok I1 ea c n l fun u' s2 I2 ru => ⟨v, H1, I2, ru, q⟩
theorem ps_fld (ha : PE X o ta) (hv : PE X value tv) (hs : swapsWith value (some (.Attribute o f pos')) pos.line X.env = pure false) : PS X (.Assign [.Attribute o f pos'] value pos) (sFld X.K ta tv f) := by
  intro pins s σ H D I h
  refine plainObj_wpAny_Assign_Attribute (thn (hv pins s σ H _ I h) fun u s1 ⟨y, H1, I1, ry, q⟩ => thn (ha pins s1 σ H1 _ I1 q) fun ov s2 ⟨x, H2, I2, rx, a, C, dx, fs, ex, ea, c, n, l, q2⟩ => ?_) hs
  subst ex
  obtain rfl : ov = Value.ref a := rx
  exact setattr_ok I2 ea c n l ry fun s3 I3 => ⟨σ, _, I3, q2⟩
theorem methcall_of {pl : Sem Bool} {m : Str} {apos : Pos} {args : List Expr} {pins : List (Addr × Obj)} {s : Shared} {σ : St} {H : Hp} {Q : Value → Shared → Prop} {te : TE} (he : PE X e te) (I : Inv X pins σ H s)
    (h : te σ H fun x H1 => ∃ a C dx fs g, x = .ref a ∧ H1 a = some (.ins C dx fs) ∧ Cls X.K C ∧ Meth X.K C m g ∧ fs.lookup m = none ∧
      ∀ s1, Inv X pins σ H1 s1 → wpAny (model X.prog X.w) X.A (callWith pos (.ref g) [.ref a] (backTo pos (starEach args X.env)) (backToKw pos (keywordEach [] X.env))) Q X.xe s1)
    (ht : eval (.Call (.Attribute e m apos) args [] pos) X.env = (do
      let ov ← eval e X.env
      standAt apos.atName
      let (f, first) ← holding [ov] (getMethod ov m pl)
      callWith pos f first (backTo pos (starEach args X.env)) (backToKw pos (keywordEach [] X.env)))) :
    wpAny (model X.prog X.w) X.A (eval (.Call (.Attribute e m apos) args [] pos) X.env) Q X.xe s := by
  refine PySem.W.methodCall_KW (pl := pl) (thn (he pins s σ H _ I h) fun u s1 ⟨x, H1, I1, rx, a, C, dx, fs, g, ex, ea, c, k, l, q⟩ => ?_) ht
  subst ex
  obtain rfl : u = Value.ref a := rx
  exact getmeth_ok I1 ea c k l (q s1 I1)
end
end L2
namespace L2
open PySem PySem.Spec PyProof.Rows
structure Room (k : Nat) (A : Around) : Prop where
  hd : A.handled = none
  dp : A.depth + 3 * k + 5 < recursionLimit
  un : A.units + 16 * k + 200 < cLine
theorem Room.mono {j k : Nat} {A : Around} (r : Room k A) (h : j ≤ k) : Room j A := ⟨r.hd, by have := r.dp; omega, by have := r.un; omega⟩
theorem Room.deeper {k : Nat} {A : Around} (r : Room (k + 1) A) (env : Env) : Room k (A.deeper env) :=
  ⟨r.hd, by have := r.dp; show A.depth + 1 + 3 * k + 5 < _; omega, by have := r.un; show A.units + 3 + 16 * k + 200 < _; omega⟩
theorem make_depth {A : Around} {C : Addr} {us : List Value} {kw : List (Str × Value)} : (A.under (.builtin "type.__call__" ⟨.ref C :: us, kw⟩)).depth = A.depth + 1 := by
  first | rfl | simp [Around.under, Code.weight, Code.isCreation, Code.isGuard, Code.isCaller, Code.frames, Code.isFrame, guardIds]
theorem make_units {A : Around} {C : Addr} {us : List Value} {kw : List (Str × Value)} : (A.under (.builtin "type.__call__" ⟨.ref C :: us, kw⟩)).units = A.units + 1 := by
  first | rfl | simp [Around.under, Code.cUnits, Code.frames, Code.isFrame]
theorem Room.make {k : Nat} {A : Around} (r : Room (k + 1) A) (C : Addr) (us : List Value) (kw : List (Str × Value)) : Room k (A.under (.builtin "type.__call__" ⟨.ref C :: us, kw⟩)) :=
  ⟨r.hd, by have := r.dp; rw [make_depth]; omega, by have := r.un; rw [make_units]; omega⟩
theorem Room.depth {k : Nat} {A : Around} (r : Room k A) : A.depth < recursionLimit := by have := r.dp; omega
theorem Room.units {k : Nat} {A : Around} (r : Room k A) : A.units + 64 < cLine := by have := r.un; omega
def tNil : TA := fun _ H Q => Q [] H
def tCons (ta : TE) (tr : TA) : TA := fun σ H Q => ta σ H fun x H1 => tr σ H1 fun xs H2 => Q (x :: xs) H2
section
variable {X : Cx} {e : Expr} {es : List Expr} {te : TE} {t : TA} {pos : Pos}
theorem pa_nil : PA X [] tNil := fun _ _ _ _ H Q I h => Calls.spliced_nil ⟨[], H, I, .nil, h⟩
theorem pa_cons (ha : PE X e te) (hr : PA X es t) (hs : starEach (e :: es) X.env = (false, eval e X.env) :: starEach es X.env := by rfl) : PA X (e :: es) (tCons te t) := by
  intro pos pins s σ H Q I h
  rw [hs]
  show wpAny _ _ (spliced ((false, eval e X.env) :: backTo pos (starEach es X.env))) _ _ s
  refine Calls.spliced_cons (thn (ha pins s σ H _ I h) fun u s1 ⟨x, H1, I1, r1, q1⟩ => ?_)
  exact thn (hr pos pins s1 σ H1 _ I1 q1) fun us s2 ⟨xs, H2, I2, r2, q2⟩ => ⟨x :: xs, H2, I2, .cons r1 r2, q2⟩
def tTup (t : TA) : TE := fun σ H Q => t σ H fun xs H1 => xs.length ≤ sizeLine ∧ ∀ p, H1 p = none → Q (.ref p) (upd H1 p (.tup xs))
def tLst (t : TA) : TE := fun σ H Q => t σ H fun xs H1 => xs.length ≤ sizeLine ∧ ∀ p, H1 p = none → Q (.ref p) (upd H1 p (.lst xs))
theorem pe_tup {x1} (h : PA X es t) : PE X (.Tuple es x1 pos) (tTup t) := by
  intro pins s σ H Q I hq
  refine wpAny_Tuple_spliced (thn (h pos pins s σ H _ I hq) fun us s1 ⟨xs, H1, I1, r, z, q⟩ => ⟨by rw [← r.length]; exact z, ?_⟩)
  have hf : H1 s1.heap.objs.size = none := I1.hok.fresh (Nat.le_refl _)
  refine ⟨.ref s1.heap.objs.size, upd H1 s1.heap.objs.size (.tup xs), I1.laid (t' := s1.toks) (fun b u e => Heap.get?_push_of_some _ e) (Nat.le_refl _) ?_, rfl, q _ hf⟩
  exact ⟨z, us, r, ⟨_, Heap.get?_push_size _ rfl, rfl, _, rfl⟩⟩
theorem pe_lst (h : PA X es t) : PE X (.List es pos) (tLst t) := by
  intro pins s σ H Q I hq
  refine wpAny_List_spliced (thn (h pos pins s σ H _ I hq) fun us s1 ⟨xs, H1, I1, r, z, q⟩ => ⟨by rw [← r.length]; exact z, ?_⟩)
  have hf : H1 s1.heap.objs.size = none := I1.hok.fresh (Nat.le_refl _)
  refine ⟨.ref s1.heap.objs.size, upd H1 s1.heap.objs.size (.lst xs), I1.laid (t' := s1.toks) (fun b u e => Heap.get?_push_of_some _ e) (Nat.le_refl _) ?_, rfl, q _ hf⟩
  exact ⟨z, us, 0, r, Heap.get?_push_size _ rfl⟩
end
abbrev Sp := List V → Hp → VK → XK → Prop
abbrev CXT := List Env → Hp → Shared → XK → Value → Shared → Prop
structure Env0 (P : Program) (w : World) (K : PySem.W.Frag) (mg : Str → Option Value) (base : Heap) (A : Around) (outer : List Env) (s : Shared) (H : Hp) : Prop where
  frames : A.frames = some outer
  mod : Mod K mg base
  bs : ∀ b o, base.get? b = some o → s.heap.get? b = some o ∧ H b = none
  bsz : base.objs.size ≤ s.heap.objs.size
  funs : s.heap.FunFrames base outer
  frf : ∀ b ∈ frs outer, H b = none
  hok : HOk P w H s.heap
  bare : AllBare s.gens
def CE (outer : List Env) (P : Program) (w : World) (H : Hp) (s : Shared) (Q : VK) (u : Value) (s' : Shared) : Prop :=
  ∃ v H', s'.os = s.os ∧ AllBare s'.gens ∧ Un (frs outer) [] H H' s.heap s'.heap ∧ HOk P w H' s'.heap ∧ RelV v u ∧ Q v H'
def CR (CX : CXT) (outer : List Env) (P : Program) (w : World) (H : Hp) (s : Shared) (Q : VK) (E : XK) (r : Result) (s' : Shared) : Prop :=
  match r with
  | .ok (.ret u) => CE outer P w H s Q u s'
  | .ok _ => False
  | .error e => CX outer H s E e s'
structure FnOk (P : Program) (w : World) (K : PySem.W.Frag) (mg : Str → Option Value) (base : Heap) (CX : CXT) (k : Nat) (f : Addr) (fd : FuncData) (ps : List Str) (sp : Sp) : Prop where
  len : ∀ vs H Q E, sp vs H Q E → vs.length = ps.length
  run : ∀ (A : Around) (outer : List Env) (s : Shared) (H : Hp) (args : Args) (us : List Value) (vs : List V) (Q : VK) (E : XK), Room k A → Env0 P w K mg base A outer s H → BindsTo s fd args (ps.zip us) → Vals vs us → sp vs H Q E →
    codeAny (model P w) A (.call (.ref f) args) (CR CX outer P w H s Q E) s
theorem Env0.make {P : Program} {w : World} {K : PySem.W.Frag} {mg : Str → Option Value} {base : Heap} {A : Around} {outer : List Env} {s : Shared} {H : Hp} (e : Env0 P w K mg base A outer s H) (C : Addr) (us : List Value) (kw : List (Str × Value)) :
    Env0 P w K mg base (A.under (.builtin "type.__call__" ⟨.ref C :: us, kw⟩)) outer s H := ⟨by first | exact e.frames | (simpa [Around.under, Code.envs, Code.isFrame, pushEnvs] using e.frames), e.mod, e.bs, e.bsz, e.funs, e.frf, e.hok, e.bare⟩
section
variable {X : Cx} {pins : List (Addr × Obj)} {σ : St} {H : Hp} {s s' : Shared}
theorem Inv.env0 (I : Inv X pins σ H s) : Env0 X.prog X.w X.K X.mg X.base X.A X.stack s H :=
  ⟨I.ok.frames, I.ok.mod, I.bs, Nat.le_trans I.ok.bsz I.sz, I.stack, I.stkFree, I.hok, I.bare⟩
theorem Inv.after {Q : VK} {u : Value} (I : Inv X pins σ H s) (h : CE X.stack X.prog X.w H s Q u s') : EP X pins σ Q u s' := by
  obtain ⟨v, H', os, bare, un, hok, r, q⟩ := h
  obtain ⟨hh, g, d, t, os'⟩ := s'
  obtain rfl : os' = s.os := os
  exact ⟨v, H', I.call (h' := hh) (g' := g) (d' := d) (t' := t) (ch := []) un hok bare (fun b z => absurd z (by simp)), r, q⟩
end
def tCall (sp : Sp) (dvs : List V) (E : XK) (t : TA) : TE := fun σ H Q => t σ H fun vs H1 => sp (vs ++ dvs) H1 Q E
def tMeth (C : Addr) (m : Str) (sp : Sp) (dvs : List V) (E : XK) (ta : TE) (t : TA) : TE := fun σ H Q => ta σ H fun x H1 => ∃ a dx fs, x = .ref a ∧ H1 a = some (.ins C dx fs) ∧ fs.lookup m = none ∧
  t σ H1 fun vs H2 => sp (x :: (vs ++ dvs)) H2 Q E
def tMake (C : Addr) (sp : Sp) (dvs : List V) (E : XK) (t : TA) : TE := fun σ H Q => t σ H fun vs H1 => ∀ x dx, H1 x = none → H1 dx = none → dx ≠ x →
  sp (.ref x :: (vs ++ dvs)) (upd (upd H1 dx (.own x)) x (.ins C dx [])) (fun v H2 => v = .non ∧ Q (.ref x) H2) E
def Binds (K : PySem.W.Frag) (fd : FuncData) (ps : List Str) (ds : List Value) : Prop :=
  ∀ (s : Shared) (us : List Value), K.In s.heap → (us ++ ds).length = ps.length → BindsTo s fd ⟨us, []⟩ (ps.zip (us ++ ds))
theorem Binds.all {K : PySem.W.Frag} {fd : FuncData} {ps : List Str} (h : ∀ us : List Value, us.length = ps.length → bindArgs fd ⟨us, []⟩ = pure (ps.zip us)) : Binds K fd ps [] := fun s us _ hl => by
  rw [List.append_nil] at hl ⊢
  exact .of_eq (h us hl)
def Passes (CX : CXT) (X : Cx) (E : XK) : Prop := ∀ (pins : List (Addr × Obj)) (σ : St) (H : Hp) (s : Shared) (e : Value) (s' : Shared), Inv X pins σ H s → CX X.stack H s E e s' → X.xe e s'
section
variable {X : Cx} {CX : CXT} {k : Nat} {f C : Addr} {fd : FuncData} {ps : List Str} {sp : Sp} {dvs : List V} {ds : List Value} {E : XK} {x m : Str} {p pos apos : Pos} {e o : Expr} {es : List Expr} {ta : TE} {t : TA}
theorem run_fn {pins : List (Addr × Obj)} {σ : St} {H : Hp} {s : Shared} {Q : VK} {us : List Value} {vs : List V} (F : FnOk X.prog X.w X.K X.mg X.base CX k f fd ps sp) (hr : Room k X.A) (hb : Binds X.K fd ps ds) (hd : Vals dvs ds) (hx : Passes CX X E)
    (I : Inv X pins σ H s) (r : Vals vs us) (h : sp (vs ++ dvs) H Q E) : wpAny (model X.prog X.w) X.A (call (.ref f) us) (EP X pins σ Q) X.xe s := by
  have r2 : Vals (vs ++ dvs) (us ++ ds) := r.append hd
  have hl : (us ++ ds).length = ps.length := by rw [← r2.length]; exact F.len _ _ _ _ h
  refine wpAny_call (codeAny_mono (F.run X.A X.stack s H ⟨us, []⟩ (us ++ ds) (vs ++ dvs) Q E hr I.env0 (hb s us I.kIn hl) r2 h) fun r s' hq => ?_)
  cases r with
  | error e => exact hx pins σ H s e s' I hq
  | ok fl =>
    cases fl with
    | ret u => exact I.after hq
    | next => exact False.elim hq
    | brk => exact False.elim hq
    | cont => exact False.elim hq
theorem pe_call (F : FnOk X.prog X.w X.K X.mg X.base CX k f fd ps sp) (hr : Room k X.A) (hg : Gl X x) (hm : X.mg x = some (.ref f)) (hk : PySem.W.keepIn X.K (.ref f) = true) (hb : Binds X.K fd ps ds) (hd : Vals dvs ds) (hx : Passes CX X E)
    (ha : PA X (e :: es) t) (hdb : (x == ("__debug__" : Str)) = false := by decide) (he : starEach (e :: es) X.env = (false, eval e X.env) :: starEach es X.env := by rfl) (hpl : (backTo pos (starEach es X.env)).any (·.1) = false := by rfl) :
    PE X (.Call (.Name x p) (e :: es) [] pos) (tCall sp dvs E t) := by
  intro pins s σ H Q I h
  refine wpAny_Call_Name_kw (ld_glob I hg hm ?_ hdb)
  refine PySem.W.callWith_K (h₀ := X.base) I.ok.mod.kin hk (thn (ha pos pins s σ H _ I h) fun us s1 ⟨vs, H1, I1, r, q⟩ => ⟨I1.kIn, ?_⟩) he hpl
  exact run_fn F hr hb hd hx I1 r q
theorem pe_meth {pl : Sem Bool} (he : PE X o ta) (c : Cls X.K C) (hm : Meth X.K C m f) (F : FnOk X.prog X.w X.K X.mg X.base CX k f fd ps sp) (hr : Room k X.A) (hb : Binds X.K fd ps ds) (hd : Vals dvs ds) (hx : Passes CX X E) (ha : PA X (e :: es) t)
    (hst : starEach (e :: es) X.env = (false, eval e X.env) :: starEach es X.env := by rfl) (hpl : (backTo pos (starEach es X.env)).any (·.1) = false := by rfl)
    (ht : eval (.Call (.Attribute o m apos) (e :: es) [] pos) X.env = (do
      let ov ← eval o X.env
      standAt apos.atName
      let (f, first) ← holding [ov] (getMethod ov m pl)
      callWith pos f first (backTo pos (starEach (e :: es) X.env)) (backToKw pos (keywordEach [] X.env))) := by rfl) :
    PE X (.Call (.Attribute o m apos) (e :: es) [] pos) (tMeth C m sp dvs E ta t) := by
  intro pins s σ H Q I h
  refine PySem.W.methodCall_KW (pl := pl) (thn (he pins s σ H _ I h) fun u s1 ⟨x, H1, I1, rx, a, dx, fs, ex, ea, l, q⟩ => ?_) ht
  subst ex
  obtain rfl : u = Value.ref a := rx
  refine getmeth_ok I1 ea c hm l ?_
  refine PySem.W.callWith_K (first := [.ref a]) (h₀ := X.base) I.ok.mod.kin hm.kp (thn (ha pos pins s1 σ H1 _ I1 q) fun us s2 ⟨vs, H2, I2, r, q2⟩ => ⟨I2.kIn, ?_⟩) hst hpl
  exact run_fn (us := .ref a :: us) (vs := .ref a :: vs) F hr hb hd hx I2 (.cons rfl r) q2
theorem pe_meth0 {pl : Sem Bool} (he : PE X o ta) (c : Cls X.K C) (hm : Meth X.K C m f) (F : FnOk X.prog X.w X.K X.mg X.base CX k f fd ps sp) (hr : Room k X.A) (hb : Binds X.K fd ps ds) (hd : Vals dvs ds) (hx : Passes CX X E)
    (ht : eval (.Call (.Attribute o m apos) [] [] pos) X.env = (do
      let ov ← eval o X.env
      standAt apos.atName
      let (f, first) ← holding [ov] (getMethod ov m pl)
      callWith pos f first (backTo pos (starEach [] X.env)) (backToKw pos (keywordEach [] X.env))) := by rfl) :
    PE X (.Call (.Attribute o m apos) [] [] pos) (tMeth C m sp dvs E ta tNil) := by
  intro pins s σ H Q I h
  refine PySem.W.methodCall_KW (pl := pl) (thn (he pins s σ H _ I h) fun u s1 ⟨x, H1, I1, rx, a, dx, fs, ex, ea, l, q⟩ => ?_) ht
  subst ex
  obtain rfl : u = Value.ref a := rx
  refine getmeth_ok I1 ea c hm l ?_
  exact PySem.W.callWith_K0 (first := [.ref a]) I1.kIn hm.kp (run_fn (us := [.ref a]) (vs := [.ref a]) F hr hb hd hx I1 (.cons rfl .nil) q)
structure Mk (K : PySem.W.Frag) (C f : Addr) : Prop where
  makes : PySem.W.makesIn K C = true
  init : PySem.W.findIn K (.ref C) "__init__" = some (some (.ref f))
  fn : PySem.W.isFn K (.ref f) = true
  kp : PySem.W.keepIn K (.ref C) = true
theorem run_make {pins : List (Addr × Obj)} {σ : St} {H : Hp} {s : Shared} {Q : VK} {us : List Value} {vs : List V} (M : Mk X.K C f) (F : FnOk X.prog X.w X.K X.mg X.base CX k f fd ps sp) (hr : Room (k + 1) X.A) (hb : Binds X.K fd ps ds) (hd : Vals dvs ds)
    (hx : Passes CX X E) (I : Inv X pins σ H s) (r : Vals vs us)
    (h : ∀ x dx, H x = none → H dx = none → dx ≠ x → sp (.ref x :: (vs ++ dvs)) (upd (upd H dx (.own x)) x (.ins C dx [])) (fun v H2 => v = .non ∧ Q (.ref x) H2) E) :
    wpAny (model X.prog X.w) X.A (call (.ref C) us) (EP X pins σ Q) X.xe s := by
  have hq := h (s.heap.objs.size + 1) s.heap.objs.size (I.hok.fresh (Nat.le_succ _)) (I.hok.fresh (Nat.le_refl _)) (Nat.ne_of_lt (Nat.lt_succ_self _))
  have I2 := Inv.made (C := C) I
  have r2 : Vals (V.ref (s.heap.objs.size + 1) :: (vs ++ dvs)) (Value.ref (s.heap.objs.size + 1) :: (us ++ ds)) := .cons rfl (r.append hd)
  have hl : (Value.ref (s.heap.objs.size + 1) :: us ++ ds).length = ps.length := by
    have e := r2.length
    rw [F.len _ _ _ _ hq] at e
    exact e.symm
  refine wpAny_call (make_map (f := f) I.kIn M.makes M.init (beq_iff_eq.mp M.fn) (codeAny_mono (F.run _ X.stack _ _ ⟨Value.ref (s.heap.objs.size + 1) :: us, []⟩ (Value.ref (s.heap.objs.size + 1) :: (us ++ ds)) _ _ E (hr.make C us [])
    (I2.env0.make C us []) (hb _ (Value.ref (s.heap.objs.size + 1) :: us) I2.kIn hl) r2 hq) fun r s' hq' => ?_))
  cases r with
  | error e => exact hx pins σ _ _ e s' I2 hq'
  | ok fl =>
    cases fl with
    | ret u =>
      obtain ⟨v, H', I3, rv, ev, q3⟩ := I2.after hq'
      subst ev
      exact ⟨rv, ⟨V.ref (s.heap.objs.size + 1), H', I3, rfl, q3⟩⟩
    | next => exact False.elim hq'
    | brk => exact False.elim hq'
    | cont => exact False.elim hq'
theorem pe_make0 (M : Mk X.K C f) (F : FnOk X.prog X.w X.K X.mg X.base CX k f fd ps sp) (hr : Room (k + 1) X.A) (hg : Gl X x) (hm : X.mg x = some (.ref C)) (hb : Binds X.K fd ps ds) (hd : Vals dvs ds) (hx : Passes CX X E)
    (hdb : (x == ("__debug__" : Str)) = false := by decide) : PE X (.Call (.Name x p) [] [] pos) (tMake C sp dvs E tNil) := by
  intro pins s σ H Q I h
  refine wpAny_Call_Name_kw (ld_glob I hg hm ?_ hdb)
  exact PySem.W.callWith_K0 I.kIn M.kp (run_make (us := []) M F hr hb hd hx I .nil h)
end
structure FnScope (N P : List Str) (sc : Scope) : Prop where
  kind : sc.kind = .function
  co : sc.isCoroutine = false
  gen : sc.isGenerator = false
  nd : N.Nodup
  pre : N.take P.length = P
  par : ∀ x ∈ P, sc.names.lookup x = some .local ∨ sc.names.lookup x = some .cell
  nofree : ∀ y ∈ sc.names, y.2 ≠ .free
theorem bindL_out {kindOf : Str → Option NameKind} {x : Str} : ∀ {binds : List (Str × Value)} {m : Str → Option Value}, (∀ v, (x, v) ∉ binds) → bindL kindOf binds m x = m x
  | [], _, _ => rfl
  | (n, v) :: r, m, h => by
    unfold bindL
    rw [bindL_out fun w hw => h w (List.mem_cons_of_mem _ hw)]
    split
    · have : x ≠ n := by rintro rfl; exact h v List.mem_cons_self
      simp [this]
    · rfl
theorem bindC_out {kindOf : Str → Option NameKind} {x : Str} : ∀ {binds : List (Str × Value)} {m : Str → Option Value}, (∀ v, (x, v) ∉ binds) → bindC kindOf binds m x = m x
  | [], _, _ => rfl
  | (n, v) :: r, m, h => by
    unfold bindC
    rw [bindC_out fun w hw => h w (List.mem_cons_of_mem _ hw)]
    split
    · rfl
    · have : x ≠ n := by rintro rfl; exact h v List.mem_cons_self
      simp [this]
theorem bindL_get {kindOf : Str → Option NameKind} {x : Str} {v : Value} : ∀ {P : List Str} {vs : List Value} {i : Nat} {m : Str → Option Value}, P.Nodup → P[i]? = some x → vs[i]? = some v → kindOf x = some .local →
    bindL kindOf (P.zip vs) m x = some v
  | [], _, _, _, _, h, _, _ => by simp at h
  | _ :: _, [], _, _, _, _, h, _ => by simp at h
  | p :: P, w :: vs, 0, m, nd, h1, h2, hk => by
    simp at h1 h2; subst h1; subst h2
    show bindL kindOf ((p, w) :: P.zip vs) m p = _
    unfold bindL
    rw [bindL_out fun v hv => (List.nodup_cons.mp nd).1 (List.of_mem_zip hv).1, if_pos hk]
    simp
  | p :: P, w :: vs, i + 1, m, nd, h1, h2, hk => by
    show bindL kindOf ((p, w) :: P.zip vs) m x = _
    unfold bindL
    exact bindL_get (i := i) (List.nodup_cons.mp nd).2 (by simpa using h1) (by simpa using h2) hk
theorem bindC_get {kindOf : Str → Option NameKind} {x : Str} {v : Value} : ∀ {P : List Str} {vs : List Value} {i : Nat} {m : Str → Option Value}, P.Nodup → P[i]? = some x → vs[i]? = some v → kindOf x ≠ some .local →
    bindC kindOf (P.zip vs) m x = some v
  | [], _, _, _, _, h, _, _ => by simp at h
  | _ :: _, [], _, _, _, _, h, _ => by simp at h
  | p :: P, w :: vs, 0, m, nd, h1, h2, hk => by
    simp at h1 h2; subst h1; subst h2
    show bindC kindOf ((p, w) :: P.zip vs) m p = _
    unfold bindC
    rw [bindC_out fun v hv => (List.nodup_cons.mp nd).1 (List.of_mem_zip hv).1, if_neg hk]
    simp
  | p :: P, w :: vs, i + 1, m, nd, h1, h2, hk => by
    show bindC kindOf ((p, w) :: P.zip vs) m x = _
    unfold bindC
    exact bindC_get (i := i) (List.nodup_cons.mp nd).2 (by simpa using h1) (by simpa using h2) hk
def start (N : List Str) (vs : List V) : St := vs.map some ++ List.replicate (N.length - vs.length) none
def cxOf (CX : CXT) (P : Program) (w : World) (K : PySem.W.Frag) (mg : Str → Option Value) (base : Heap) (N : List Str) (qual : Str) (scope : Scope) (f : Addr) (cd : Value) (A : Around) (outer : List Env) (s : Shared) (H : Hp) (E : XK) : Cx where
  prog := P
  w := w
  K := K
  mg := mg
  base := base
  A := A.deeper (envOfC qual scope s.heap.objs.size f cd)
  N := N
  s_0 := s
  H_0 := H
  env := envOfC qual scope s.heap.objs.size f cd
  outer := outer
  stack := envOfC qual scope s.heap.objs.size f cd :: outer
  ex := []
  calm := true
  fn := fun _ => true
  pn := []
  xe := fun e s' => wpAny (model P w) (A.deeper (envOfC qual scope s.heap.objs.size f cd)) (leaving (envOfC qual scope s.heap.objs.size f cd) e) (fun _ s'' => CX outer H s E e s'') (fun e' s'' => CX outer H s E e' s'') s'
theorem cell_has {sc : Scope} {n : Nat} {x : Str} (h : sc.names.lookup x = some .cell) : ∃ c, (cellsFrom n sc.names []).lookup x = some c := by
  have q := PySem.W.cellsFrom_some sc.names n [] (.inl h)
  exact Option.isSome_iff_exists.mp q
theorem inv_start {CX : CXT} {P : Program} {w : World} {K : PySem.W.Frag} {mg : Str → Option Value} {base : Heap} {N ps : List Str} {qual : Str} {scope : Scope} {f : Addr} {cd : Value} {A : Around} {outer : List Env} {s s1 : Shared} {H : Hp} {E : XK} {us : List Value} {vs : List V}
    (S : FnScope N ps scope) (hd : A.handled = none) (e0 : Env0 P w K mg base A outer s H) (hl : vs.length = ps.length) (r : Vals vs us)
    (x : InCallC s s.heap.objs.size (bindL (envOfC qual scope s.heap.objs.size f cd).kindOf (ps.zip us) fun _ => none) (cellsFrom (s.heap.objs.size + 1) scope.names []) (bindC (envOfC qual scope s.heap.objs.size f cd).kindOf (ps.zip us) fun _ => none) s1) :
    Inv (cxOf CX P w K mg base N qual scope f cd A outer s H E) [] (start N vs) H s1 := by
  have hpl : ps.length ≤ N.length := by have := congrArg List.length S.pre; rw [List.length_take] at this; omega
  obtain ⟨h1, tk, rfl, hk⟩ := x.done
  have noA : ∀ b : Addr, b ∉ (cxOf CX P w K mg base N qual scope f cd A outer s H E).ex := fun b z => absurd (show b ∈ ([] : List Addr) from z) (by simp)
  refine ⟨⟨e0.mod, S.kind, rfl, rfl, Nat.le_refl _, fun y z c h1 h2 => ?_, fun y hy => ?_, fun y c _ h => ?_, fun _ => hd, Around.frames_deeper e0.frames, .inr ⟨rfl, rfl⟩, fun b z => absurd z (noA b), e0.bs, e0.bsz, fun b _ _ => noA b, fun b z => absurd z (noA b), e0.funs, e0.frf⟩,
    rfl, e0.bare, Un.kept hk, ⟨_, x.toInCall.ns, fun i y v h1 h2 h3 => ?_⟩, fun y c h => ⟨_, x.cell y c h⟩, e0.hok.fresh (Nat.le_refl _), fun y c h => ?_, fun p hp => absurd (show p ∈ ([] : List (Addr × Obj)) from hp) (by simp), e0.hok.kept hk, ?_⟩
  · exact name_of_addr x.apart (PySem.mem_of_lookup h1) (PySem.mem_of_lookup h2)
  · have hy : scope.names.lookup y = some .cell ∨ scope.names.lookup y = some .free := hy
    rcases hy with hy | hy
    · exact cell_has hy
    · exact absurd rfl (S.nofree _ (PySem.mem_of_lookup hy))
  · exact Nat.le_of_lt (x.above y c (PySem.mem_of_lookup h))
  · have hi : i < vs.length := by
      unfold start at h2
      by_cases hi : i < vs.length
      · exact hi
      · rw [List.getElem?_append_right (by simpa using hi)] at h2
        rw [List.getElem?_replicate] at h2
        split at h2 <;> cases h2
    have ha : vs[i]? = some v := by
      unfold start at h2
      rw [List.getElem?_append_left (by simpa using hi), List.getElem?_map] at h2
      cases e : vs[i]? with
      | none => rw [e] at h2; cases h2
      | some a => rw [e] at h2; cases h2; rfl
    obtain ⟨u, hu, rv⟩ := r.get ha
    have hp : ps[i]? = some y := by
      rw [← S.pre, List.getElem?_take_of_lt (by omega)]; exact h1
    have ndP : ps.Nodup := by rw [← S.pre]; exact S.nd.sublist (List.take_sublist _ _)
    refine ⟨u, rv, ?_⟩
    rcases S.par y (List.mem_of_getElem? hp) with k | k
    · exact .inl ⟨k, bindL_get ndP hp hu k⟩
    · obtain ⟨c, e⟩ := cell_has (n := s.heap.objs.size + 1) k
      refine .inr ⟨.inl k, c, e, ?_⟩
      have q := x.cell y c e
      rw [bindC_get ndP hp hu (by show scope.names.lookup y ≠ _; rw [k]; decide)] at q
      exact q
  · exact e0.hok.fresh (Nat.le_of_lt (x.above y c (PySem.mem_of_lookup h)))
  · unfold start
    show _ = N.length
    rw [List.length_append, List.length_map, List.length_replicate]
    omega
theorem fn_of {CX : CXT} {P : Program} {w : World} {K : PySem.W.Frag} {mg : Str → Option Value} {base : Heap} {k : Nat} {f : Addr} {name qual : Str} {params : Arguments} {body : List Stmt} {scope : Scope} {dV kV doc pm cdv ct oc : Value} {an od : Option Addr}
    {osl : Array (Option Value)} {N ps : List Str} {sp : Sp} (lk : K.lookup f = some ⟨oc, od, .func (PySem.W.fnOf name qual params body scope dV kV doc pm an cdv ct), osl⟩) (hcd : PySem.W.codeIn K cdv qual = true) (S : FnScope N ps scope)
    (len : ∀ vs H Q E, sp vs H Q E → vs.length = ps.length)
    (hbody : ∀ (A : Around) (outer : List Env) (s : Shared) (H : Hp) (vs : List V) (Q : VK) (E : XK), Room k (A.deeper (envOfC qual scope s.heap.objs.size f cdv)) → sp vs H Q E →
      ∃ t, PSs (cxOf CX P w K mg base N qual scope f cdv A outer s H E) body t ∧ t { nx := fun _ H' => Q .non H', rt := Q } (start N vs) H) :
    FnOk P w K mg base CX (k + 1) f (PySem.W.fnOf name qual params body scope dV kV doc pm an cdv ct) ps sp := by
  refine ⟨len, fun A outer s H args us vs Q E hr e0 hb r hsp => ?_⟩
  have hl := len _ _ _ _ hsp
  have KX : K.In s.heap := e0.mod.kin.keeps fun b o e => (e0.bs b o e).1
  have lim : s.heap.NoLimit := e0.mod.nolimit.keeps fun b o e => (e0.bs b o e).1
  have hkind : ∀ y ∈ ps.zip us, scope.names.lookup y.1 = some .local ∨ (scope.names.lookup y.1 = some .cell ∧ ((cellsFrom (s.heap.objs.size + 1) scope.names []).lookup y.1).isSome = true) := fun ⟨n, v⟩ hy => by
    rcases S.par n (List.of_mem_zip hy).1 with q | q
    · exact .inl q
    · exact .inr ⟨q, PySem.W.cellsFrom_some _ _ _ (.inl q)⟩
  refine codeAny_call_function hr.depth (KX _ _ lk) rfl S.co S.gen rfl (PySem.W.codeRec_of KX hcd) (hb _ _ _ _ ?_)
  refine wpAny_newFunctionEnv_cells S.kind hkind fun env he s1 x => ?_
  subst he
  refine ⟨lim.keeps x.toInCall.keep, codeAny_func ?_⟩
  obtain ⟨t, ht, hq⟩ := hbody A outer s H vs Q E (hr.deeper _) hsp
  have I : Inv (cxOf CX P w K mg base N qual scope f cdv A outer s H E) [] (start N vs) H s1 := inv_start S hr.hd e0 hl r x
  refine wpAny_mono (ht [] s1 (start N vs) H _ I hq) (fun fl s' hs => ?_) fun e s' hs => hs
  have fin : ∀ {σ' : St} {H' : Hp} {v : V} {u : Value}, Inv (cxOf CX P w K mg base N qual scope f cdv A outer s H E) [] σ' H' s' → RelV v u → Q v H' → CE outer P w H s Q u s' :=
    fun {σ' H' v u} J rv q => ⟨v, H', J.os, J.bare, J.base, J.hok, rv, q⟩
  cases fl with
  | ret u =>
    obtain ⟨v, σ', H', J, rv, q⟩ := hs
    exact fin J rv q
  | next =>
    obtain ⟨σ', H', J, q⟩ := hs
    exact fin (v := V.non) (u := Value.none) J rfl q
  | brk =>
    obtain ⟨_, _, _, q⟩ := hs
    exact False.elim q
  | cont =>
    obtain ⟨_, _, _, q⟩ := hs
    exact False.elim q
end L2
namespace L2
open PySem PySem.Spec PyProof.Rows
section
variable {X : Cx} {x : Str} {p pos : Pos} {e : Expr} {es : List Expr} {t : TA} {id T : String} {r : List V → Hp → VK → Prop}
def tCB (r : List V → Hp → VK → Prop) (t : TA) : TE := fun σ H Q => t σ H fun vs H1 => r vs H1 Q
theorem pe_callB (hc : CallR X (.builtin id) r) (hg : Gl X x) (hm : X.mg x = none) (hv : bootBuiltins x = some (.builtin id)) (ha : PA X (e :: es) t) (hn : x ≠ "__name__" := by decide) (hdb : (x == ("__debug__" : Str)) = false := by decide)
    (he : starEach (e :: es) X.env = (false, eval e X.env) :: starEach es X.env := by rfl) (hpl : (backTo pos (starEach es X.env)).any (·.1) = false := by rfl) : PE X (.Call (.Name x p) (e :: es) [] pos) (tCB r t) := by
  intro pins s σ H Q I h
  refine wpAny_Call_Name_kw (ld_blt I hg hm hv ?_ hn hdb)
  exact PyProof.Rows.callWith_builtin1 (thn (ha pos pins s σ H _ I h) fun us s1 ⟨vs, H1, I1, r1, q1⟩ => hc pins s1 σ H1 vs us Q I1 r1 q1) he hpl
theorem pe_callTy (hc : CallR X (.type T) r) (hg : Gl X x) (hm : X.mg x = none) (hv : bootBuiltins x = some (.type T)) (ha : PA X (e :: es) t) (hn : x ≠ "__name__" := by decide) (hdb : (x == ("__debug__" : Str)) = false := by decide)
    (he : starEach (e :: es) X.env = (false, eval e X.env) :: starEach es X.env := by rfl) (hpl : (backTo pos (starEach es X.env)).any (·.1) = false := by rfl) : PE X (.Call (.Name x p) (e :: es) [] pos) (tCB r t) := by
  intro pins s σ H Q I h
  refine wpAny_Call_Name_kw (ld_blt I hg hm hv ?_ hn hdb)
  exact PyProof.Rows.callWith_type1 (thn (ha pos pins s σ H _ I h) fun us s1 ⟨vs, H1, I1, r1, q1⟩ => hc pins s1 σ H1 vs us Q I1 r1 q1) he hpl
end
end L2
namespace HT
open PySem PyProof.Rows
def lexLt : List Int → List Int → Bool
  | [], [] => false
  | [], _ :: _ => true
  | _ :: _, [] => false
  | x :: xs, y :: ys => if x = y then lexLt xs ys else decide (x < y)
theorem lexLt_cons (x y : Int) (xs ys : List Int) : lexLt (x :: xs) (y :: ys) = if x = y then lexLt xs ys else decide (x < y) := rfl
theorem lexLt_nil_nil : lexLt [] [] = false := rfl
theorem lexLt_nil_cons (y : Int) (ys : List Int) : lexLt [] (y :: ys) = true := rfl
theorem lexLt_cons_nil (x : Int) (xs : List Int) : lexLt (x :: xs) [] = false := rfl
theorem eqAt_int (A : Around) (s : Shared) (a : Int) (t : Tok) (c : Int) (u : Tok) : ∃ e, SeqAt.EqAt A s (.int a t) (.int c u) e ∧ (e = true ↔ a = c) :=
  ⟨(a == c), SeqAt.EqAt.int_int a t c u, by simp⟩
theorem rcLt_int (A : Around) (s : Shared) (a : Int) (t : Tok) (c : Int) (u : Tok) (prog : Program) (w : World) (E : Value → Shared → Prop) (Q : Value → Shared → Prop) (h : Q (.bool (decide (a < c))) s) :
    wpAny (model prog w) A (richCompare .Lt (.int a t) (.int c u)) Q E s :=
  (PyProof.Rows.lt_int h : wpAny (model prog w) A (compareOp .Lt (.int a t) (.int c u)) Q E s)
section
open PySem.SeqAt
open PySem.AutoSeq1 (wpAny_loadPart')
open PySem.MeetsSeq PySem.MeetsSeq2 PySem.MeetsSeq3
theorem tuple_lt_ints (l b : Addr) (items items2 : Array Value) (n n2 : Nat) (dd dd2 : Option Addr) (sl sl2 : Array (Option Value)) (ns ms : List Int) (hi : IntsAre items.toList ns) (hj : IntsAre items2.toList ms) :
    Meets (Builtin.«tuple.__lt__» ⟨[.ref l, .ref b], []⟩)
      (fun _ R s => s.heap.get? l = some { cls := .type "tuple", dict := dd, data := .seq items n, slots := sl } ∧ s.heap.get? b = some { cls := .type "tuple", dict := dd2, data := .seq items2 n2, slots := sl2 } ∧
        R (.ok (.ret (.bool (lexLt ns ms)))) s) :=
  .of_wp fun prog w A R s h => by
    obtain ⟨hp, g, d, tk, os⟩ := s; obtain ⟨hl, hb, h⟩ := h
    have f2 := AutoSeq1.sub_tuple_tuple
    have z1 : items.size = ns.length := by rw [← hi.length]; simp
    have z2 : items2.size = ms.length := by rw [← hj.length]; simp
    wp_walk using wpAny_loadPart' hl, wpAny_loadPart' hb, wpAny_forIn_list _ (fun rest b s' => b.1 = none ∧ s' = ⟨hp, g, d, tk, os⟩ ∧ ∃ (vs ws : List Value) (ns' ms' : List Int), rest = vs.zip ws ∧
      IntsAre vs ns' ∧ IntsAre ws ms' ∧ ns'.length + items2.size = ms'.length + items.size ∧ R (.ok (.ret (.bool (lexLt ns' ms')))) ⟨hp, g, d, tk, os⟩) _
    case turn =>
      rintro ⟨y, x⟩ rest b s' ⟨hb', rfl, vs, ws, ns', ms', hz, hvi, hwi, hlen, hR⟩
      cases hvi with
      | nil => rw [List.zip_nil_left] at hz; cases hz
      | cons a t hvi' =>
        cases hwi with
        | nil => rw [List.zip_nil_right] at hz; cases hz
        | cons c u hwi' =>
          rw [List.zip_cons_cons] at hz
          injection hz with hyx hrest
          injection hyx with hy hx
          subst hy hx
          rw [lexLt_cons] at hR
          simp only [List.length_cons] at hlen
          obtain ⟨e, he, hiff⟩ := eqAt_int A.in1 ⟨hp, g, d, tk, os⟩ a t c u
          refine wpAny_bind (he prog w _ _ ?_)
          cases e with
          | true =>
            rw [if_pos (hiff.mp rfl)] at hR
            wp_walk
            exact ⟨rfl, rfl, _, _, _, _, hrest, hvi', hwi', by omega, hR⟩
          | false =>
            rw [if_neg (fun q => absurd (hiff.mpr q) Bool.false_ne_true)] at hR
            have hri := rcLt_int A.in1 ⟨hp, g, d, tk, os⟩ a t c u prog w
            wp_walk using hri
            exact ⟨_, rfl, by simpa using hR⟩
    case fin =>
      rintro ⟨b1, b2⟩ s' ⟨hb', rfl, vs, ws, ns', ms', hz, hvi, hwi, hlen, hR⟩
      simp only at hb'
      subst hb'
      have hv : lexLt ns' ms' = decide (items.size < items2.size) := by
        cases hvi with
        | nil =>
          cases hwi with
          | nil =>
            simp only [List.length_nil] at hlen
            rw [lexLt_nil_nil]
            exact (decide_eq_false (by omega)).symm
          | cons c u hw =>
            simp only [List.length_nil, List.length_cons] at hlen
            rw [lexLt_nil_cons]
            exact (decide_eq_true (by omega)).symm
        | cons a t hv =>
          cases hwi with
          | nil =>
            simp only [List.length_nil, List.length_cons] at hlen
            rw [lexLt_cons_nil]
            exact (decide_eq_false (by omega)).symm
          | cons c u hw =>
            rw [List.zip_cons_cons] at hz
            cases hz
      rw [hv] at hR
      wp_walk
      exact ⟨_, rfl, by simpa [Builtin.Tuple.tupleCompareSizes] using hR⟩
    case h =>
      exact ⟨rfl, rfl, items.toList, items2.toList, ns, ms, rfl, hi, hj, by omega, h⟩
end
section
variable {prog : Program} {w : World} {A : Around} {E : Value → Shared → Prop} {s : Shared}
theorem lt_tupInts {l b : Addr} {items items2 : Array Value} {ns ms : List Int} {Q : Value → Shared → Prop} (hl : IsTup s.heap l items) (hb : IsTup s.heap b items2) (hi : IntsAre items.toList ns) (hj : IntsAre items2.toList ms)
    (hu : A.units < cLine) (h : Q (.bool (lexLt ns ms)) s) : wpAny (model prog w) A (compareOp .Lt (.ref l) (.ref b)) Q E s := by
  obtain ⟨⟨cls, dd, data, sl⟩, ho, hc, n, hd⟩ := id hl
  obtain ⟨⟨cls2, dd2, data2, sl2⟩, ho2, hc2, n2, hd2⟩ := id hb
  simp only at hc hd hc2 hd2
  subst hc hd hc2 hd2
  exact richCompare_meets_room (op := .Lt) ⟨_, ho, rfl⟩ ⟨_, ho2, rfl⟩ PySem.F.slot_tuple_lt PySem.F.entry_tuple_lt (PySem.F.args_tuple_lt_2 _ _) (tuple_lt_ints l b items items2 n n2 dd dd2 sl sl2 ns ms hi hj)
    ⟨ho, ho2, show Value.bool (lexLt ns ms) ≠ Value.notImplemented ∧ Q (.bool (lexLt ns ms)) s from ⟨(fun x => nomatch x), h⟩⟩ hu
def sIx (n d : Nat) : Option Int → Nat
  | none => d
  | some v => if v < 0 then (v + (n : Int)).toNat else min v.toNat n
theorem sIx_none (n d : Nat) : sIx n d none = d := rfl
theorem sIx_nat (n d k : Nat) : sIx n d (some (k : Int)) = min k n := by
  show (if (k : Int) < 0 then ((k : Int) + (n : Int)).toNat else min (k : Int).toNat n) = min k n
  rw [if_neg (by omega), Int.toNat_natCast]
end
end HT
namespace L2
open PySem PySem.Spec PyProof.Rows
abbrev TO := St → Hp → (Option Int → Hp → Prop) → Prop
def PO (X : Cx) (e : Option Expr) (t : TO) : Prop :=
  ∀ (pins : List (Addr × Obj)) (s : Shared) (σ : St) (H : Hp) (Q : Option Int → Hp → Prop), Inv X pins σ H s → t σ H Q →
    wpAny (model X.prog X.w) X.A (evalPart e X.env) (fun u s' => ∃ o H', Inv X pins σ H' s' ∧ IsPart u o ∧ Q o H') X.xe s
def tNoPart : TO := fun _ H Q => Q none H
def tPart (t : TE) : TO := fun σ H Q => t σ H fun x H1 => ∃ i, x = .int i ∧ Q (some i) H1
theorem intsAre_of {ns : List Int} : ∀ {us : List Value}, Vals (ns.map V.int) us → IntsAre us ns := by
  induction ns with
  | nil => intro us r; rw [List.map_nil] at r; cases r; exact .nil
  | cons n ns ih =>
    intro us r
    rw [List.map_cons] at r
    cases r with
    | cons r1 r2 =>
      obtain ⟨t, e⟩ := r1
      subst e
      exact .cons n t (ih r2)
section
variable {X : Cx} {e : Expr} {te : TE} {lo hi : Option Expr} {tl th : TO} {pos p2 : Pos}
theorem po_none : PO X none tNoPart := by
  intro pins s σ H Q I h
  rw [evalPart_none]
  exact wpAny_pure ⟨none, H, I, .none, h⟩
theorem po_some (h : PE X e te) : PO X (some e) (tPart te) := by
  intro pins s σ H Q I hw
  rw [evalPart_some]
  refine thn (h pins s σ H _ I hw) fun u s1 ⟨x, H1, I1, r1, q1⟩ => ?_
  obtain ⟨i, rfl, q⟩ := q1
  obtain ⟨t, rfl⟩ := r1
  exact ⟨some i, H1, I1, .int i t, q⟩
def SlR (X : Cx) (r : V → Option Int → Option Int → Hp → VK → Prop) : Prop :=
  ∀ (pins : List (Addr × Obj)) (s : Shared) (σ : St) (H : Hp) (x : V) (v vl vu : Value) (lo hi : Option Int) (sl : Addr) (Q : VK), Inv X pins σ H s → RelV x v → s.heap.IsSliceOf sl vl vu .none → IsPart vl lo → IsPart vu hi → r x lo hi H Q →
    ∃ T id, typeLookup (.type T) "__getitem__" = pure (some (.builtin id)) ∧ s.TypeIs v T ∧ wpAny (model X.prog X.w) X.A (getItem v (.ref sl)) (EP X pins σ Q) X.xe s
def tSl (r : V → Option Int → Option Int → Hp → VK → Prop) (te : TE) (tl th : TO) : TE := fun σ H Q => te σ H fun x H1 => tl σ H1 fun l H2 => th σ H2 fun u H3 => r x l u H3 Q
theorem pe_slice {r : V → Option Int → Option Int → Hp → VK → Prop} (hr : SlR X r) (he : PE X e te) (hl : PO X lo tl) (hu : PO X hi th) : PE X (.Subscript e (.Slice lo hi none p2) pos) (tSl r te tl th) := by
  intro pins s σ H Q I h
  refine Subscript_ (thn (he pins s σ H _ I h) fun v s1 ⟨x, H1, I1, r1, q1⟩ => ?_)
  refine wpAny_Slice (thn (hl pins s1 σ H1 _ I1 q1) fun vl s2 ⟨l, H2, I2, pl, q2⟩ => thn (hu pins s2 σ H2 _ I2 q2) fun vu s3 ⟨u, H3, I3, pu, q3⟩ => ?_)
  rw [evalPart_none]
  refine wpAny_pure ?_
  have I4 : Inv X pins σ H3 { s3 with heap := s3.heap.push { cls := .type "slice", data := .fields #[vl, vu, .none] } } := I3.kept (t' := s3.toks) fun b ob q => Heap.get?_push_of_some _ q
  obtain ⟨T, id, hT, ht, hg⟩ := hr pins { s3 with heap := s3.heap.push { cls := .type "slice", data := .fields #[vl, vu, .none] } } σ H3 x v vl vu l u s3.heap.objs.size Q I4 r1 (Heap.IsSliceOf.new ..) pl pu q3
  show wpAny (model X.prog X.w) X.A (subscriptTail e (.Slice lo hi none p2) v (.ref s3.heap.objs.size)) (EP X pins σ Q) X.xe { s3 with heap := s3.heap.push { cls := .type "slice", data := .fields #[vl, vu, .none] } }
  exact tail_any (ops := [.ref s3.heap.objs.size, v]) ht hT hg (by with_unfolding_all rfl)
def cutV (xs : List V) (lo hi : Option Int) : List V := (xs.drop (HT.sIx xs.length 0 lo)).take (HT.sIx xs.length xs.length hi - HT.sIx xs.length 0 lo)
theorem cutV_length (xs : List V) (lo hi : Option Int) : (cutV xs lo hi).length ≤ xs.length := by
  unfold cutV
  rw [List.length_take, List.length_drop]
  omega
end
end L2
namespace L2
open PySem PySem.Spec PyProof.Rows
def ixN (n : Nat) (i : Int) : Option Nat := if 0 ≤ i then (if i < n then some i.toNat else none) else if -(n : Int) ≤ i then some (i + n).toNat else none
def atI {α : Type} (xs : List α) (i : Int) : Option α := (ixN xs.length i).bind fun j => xs[j]?
theorem ixN_seq {n : Nat} {i : Int} {j : Nat} (h : ixN n i = some j) : seqIndex? i n = some j ∧ j < n ∧ -(n : Int) ≤ i ∧ i < n := by
  unfold ixN at h
  by_cases h0 : 0 ≤ i
  · rw [if_pos h0] at h
    by_cases h1 : i < n
    · rw [if_pos h1] at h
      have e : i.toNat = j := Option.some.inj h
      exact ⟨by rw [seqIndex_of h0 h1, e], by omega, by omega, h1⟩
    · rw [if_neg h1] at h; cases h
  · rw [if_neg h0] at h
    by_cases h1 : -(n : Int) ≤ i
    · rw [if_pos h1] at h
      have e : (i + n).toNat = j := Option.some.inj h
      exact ⟨by rw [seqIndex_neg (by omega) h1, e], by omega, h1, by omega⟩
    · rw [if_neg h1] at h; cases h
theorem atI_get {α : Type} {xs : List α} {i : Int} {v : α} (h : atI xs i = some v) : ∃ j, seqIndex? i xs.length = some j ∧ xs[j]? = some v ∧ j < xs.length ∧ -(xs.length : Int) ≤ i ∧ i < xs.length := by
  unfold atI at h
  cases e : ixN xs.length i with
  | none => rw [e] at h; cases h
  | some j =>
    rw [e] at h
    obtain ⟨h1, h2, h3, h4⟩ := ixN_seq e
    exact ⟨j, h1, h, h2, h3, h4⟩
theorem atI_nat {α : Type} {xs : List α} {j : Nat} {v : α} (h : xs[j]? = some v) : atI xs (j : Int) = some v := by
  have hj : j < xs.length := (List.getElem?_eq_some_iff.mp h).1
  have e : ixN xs.length (j : Int) = some j := by
    unfold ixN
    rw [if_pos (by omega), if_pos (by omega)]; simp
  unfold atI; rw [e]; exact h
def PlainIx (b : Expr) : Prop := ∀ o i, subscripted b false o i = operate [o, i] (getItem o i)
def IxR (X : Cx) (r : R2) : Prop :=
  ∀ (value slice : Expr) (pins : List (Addr × Obj)) (s : Shared) (σ : St) (H : Hp) (x y : V) (v u : Value) (Q : VK), Inv X pins σ H s → RelV x v → RelV y u → r x y H Q →
    subscripted slice false v u = operate [v, u] (getItem v u) → wpAny (model X.prog X.w) X.A (subscriptTail value slice v u) (EP X pins σ Q) X.xe s
def MtR (X : Cx) (id : String) (r : V → List V → Hp → VK → Prop) : Prop :=
  ∀ (pins : List (Addr × Obj)) (s : Shared) (σ : St) (H : Hp) (x : V) (xs : List V) (v : Value) (us : List Value) (Q : VK), Inv X pins σ H s → RelV x v → Vals xs us → r x xs H Q →
    wpAny (model X.prog X.w) X.A (call (.builtin id) (v :: us)) (EP X pins σ Q) X.xe s
section
variable {X : Cx} {a b : Expr} {ta tb : TE} {pos : Pos}
theorem pe_ix {r : R2} (hr : IxR X r) (ha : PE X a ta) (hb : PE X b tb) (hs : PlainIx b) : PE X (.Subscript a b pos) (tOp r ta tb) := by
  intro pins s σ H Q I h
  exact Subscript_ (binT ha hb I h fun v u s2 x y H2 I2 rx ry q => hr a b pins s2 σ H2 x y v u Q I2 rx ry q (hs _ _))
def rIxL (K : PySem.W.Frag) : R2 := fun x y H Q => ∃ p xs i v, x = .ref p ∧ y = .int i ∧ SqL K H p xs ∧ atI xs i = some v ∧ Q v H
def rIxT (K : PySem.W.Frag) : R2 := fun x y H Q => ∃ p xs i v, x = .ref p ∧ y = .int i ∧ SqT K H p xs ∧ atI xs i = some v ∧ Q v H
theorem ix_list : IxR X (rIxL X.K) := by
  intro value slice pins s σ H x y v u Q I rx ry h hs
  obtain ⟨p, xs, i, z, rfl, rfl, hq, he, q⟩ := h
  cases rx
  obtain ⟨t, rfl⟩ := ry
  obtain ⟨its, r, pl, hz⟩ := I.list hq
  obtain ⟨j, h1, h2, h3, h4, h5⟩ := atI_get he
  obtain ⟨w, ew, rw'⟩ := r.get h2
  have hl := r.length
  have hn := line63
  have fin : EP X pins σ Q w s := ⟨z, H, I, rw', q⟩
  by_cases h0 : 0 ≤ i
  · have hj : i.toNat = j := by
      rw [seqIndex_of h0 h5] at h1
      exact Option.some.inj h1
    exact item_listR pl.isList h0 (by omega) (by rw [hj]; simpa using ew) fin hs
  · have hj : (i + (its.toArray.size : Int)).toNat = j := by
      rw [seqIndex_neg (by omega) h4] at h1
      rw [List.size_toArray, ← hl]
      exact Option.some.inj h1
    exact subscriptTail_builtinR (x := w) pl.isList.typeIs slot_list_getitem.lookup
      (wpAny_getItem_list_neg (Q := fun r s' => r = w ∧ EP X pins σ Q r s') pl.isList (by omega) (by rw [List.size_toArray] <;> omega) (by omega) (by rw [hj]; simpa using ew) ⟨rfl, fin⟩) hs
theorem ix_tup : IxR X (rIxT X.K) := by
  intro value slice pins s σ H x y v u Q I rx ry h hs
  obtain ⟨p, xs, i, z, rfl, rfl, hq, he, q⟩ := h
  cases rx
  obtain ⟨t, rfl⟩ := ry
  obtain ⟨its, r, pl, hz⟩ := I.tuple hq
  obtain ⟨j, h1, h2, h3, h4, h5⟩ := atI_get he
  obtain ⟨w, ew, rw'⟩ := r.get h2
  have hl := r.length
  have hn := line63
  have fin : EP X pins σ Q w s := ⟨z, H, I, rw', q⟩
  exact subscriptTail_builtinR (x := w) pl.typeIs slot_tuple_getitem.lookup
    (getItem_tuple (j := j) (Q := fun r s' => r = w ∧ EP X pins σ Q r s') pl (by omega) (by omega) (by rw [List.size_toArray, ← hl]; exact h1) (by simpa using ew) ⟨rfl, fin⟩) hs
theorem mapSeq_set (its : List Value) (n j : Nat) (u : Value) : Obj.mapSeq (·.setIfInBounds j u) { cls := .type "list", data := .seq its.toArray n } = { cls := .type "list", data := .seq (its.set j u).toArray n } := by
  simp [Obj.mapSeq]
theorem Inv.lst {pins : List (Addr × Obj)} {σ : St} {H : Hp} {s : Shared} {p : Addr} {xs : List V} (I : Inv X pins σ H s) (h : H p = some (.lst xs)) :
    ∃ (its : List Value) (n : Nat), Vals xs its ∧ s.heap.get? p = some { cls := .type "list", data := .seq its.toArray n } ∧ xs.length ≤ sizeLine := by
  obtain ⟨z, its, n, r, e⟩ := I.hok p _ h
  exact ⟨its, n, r, e, z⟩
theorem Inv.lstUpd {pins : List (Addr × Obj)} {σ : St} {H : Hp} {s : Shared} {p : Addr} {xs ys : List V} {its its' : List Value} {n n' : Nat} {f : Obj → Obj} (I : Inv X pins σ H s) (h : H p = some (.lst xs))
    (ho : s.heap.get? p = some { cls := .type "list", data := .seq its.toArray n }) (hf : f { cls := .type "list", data := .seq its.toArray n } = { cls := .type "list", data := .seq its'.toArray n' }) (r : Vals ys its') (hz : ys.length ≤ sizeLine) (t : Nat) :
    Inv X pins σ (upd H p (.lst ys)) { s with heap := s.heap.update p f, toks := t } := by
  have e : (s.heap.update p f).get? p = some { cls := .type "list", data := .seq its'.toArray n' } := by
    rw [Heap.get?_update_self f ho (by rw [hf] <;> rfl), hf]
  refine I.write (x := p) (e := p) (by rw [h]; trivial) (.inl rfl) (fun b u hb q => (Heap.get?_update_other _ _ (Ne.symm hb)).trans q) ⟨_, e⟩ ?_
  exact ⟨hz, its', n', r, e⟩
def rSetL : V → V → V → Hp → (Hp → Prop) → Prop := fun o i v H Q => ∃ p xs k j, o = .ref p ∧ i = .int k ∧ H p = some (.lst xs) ∧ ixN xs.length k = some j ∧ Q (upd H p (.lst (xs.set j v)))
theorem set_list : PSet X rSetL := by
  intro pins s σ H o i v ov iv u Q I ro ri rv h
  obtain ⟨p, xs, k, j, rfl, rfl, hp, hj, q⟩ := h
  cases ro
  obtain ⟨t, rfl⟩ := ri
  obtain ⟨its, n, r, ho, hz⟩ := I.lst hp
  obtain ⟨h1, h2, h3, h4⟩ := ixN_seq hj
  have hl := r.length
  have hn := line63
  have I' : Inv X pins σ (upd H p (.lst (xs.set j v))) { s with heap := s.heap.update p (Obj.mapSeq (·.setIfInBounds j u)) } :=
    I.lstUpd hp ho (mapSeq_set its n j u) (r.set rv j) (by rw [List.length_set]; exact hz) s.toks
  by_cases h0 : 0 ≤ k
  · have hk : k.toNat = j := by
      rw [seqIndex_of h0 h4] at h1
      exact Option.some.inj h1
    exact PySem.W.ki_setAt ho h0 (by omega) (by rw [List.size_toArray, ← hl]; exact h4) (by rw [hk]; exact ⟨_, I', q⟩)
  · have hk : (k + (its.toArray.size : Int)).toNat = j := by
      rw [seqIndex_neg (by omega) h3] at h1
      rw [List.size_toArray, ← hl]
      exact Option.some.inj h1
    exact PySem.W.ki_setBack ho (by omega) (by rw [List.size_toArray, ← hl]; exact h3) (by omega) (by rw [hk]; exact ⟨_, I', q⟩)
theorem slice_bounds (lo hi : Option Int) (n : Nat) : (sliceBounds lo hi none n).1 = ((HT.sIx n 0 lo : Nat) : Int) ∧ (sliceBounds lo hi none n).2.1 = ((HT.sIx n n hi : Nat) : Int) ∧ (sliceBounds lo hi none n).2.2 = 1 := by
  refine ⟨?_, ?_, rfl⟩
  · cases lo with
    | none => simp [sliceBounds, HT.sIx]
    | some i =>
      simp only [sliceBounds, HT.sIx, Option.getD_none, show (1 : Int) > 0 by decide, if_true]
      by_cases h : i < 0
      · simp only [h, if_true] <;> omega
      · simp only [h, if_false] <;> omega
  · cases hi with
    | none => simp [sliceBounds, HT.sIx]
    | some i =>
      simp only [sliceBounds, HT.sIx, Option.getD_none, show (1 : Int) > 0 by decide, if_true]
      by_cases h : i < 0
      · simp only [h, if_true] <;> omega
      · simp only [h, if_false] <;> omega
theorem slicePick_cut (its : List Value) (lo hi : Option Int) : slicePick its.toArray lo hi none = ((its.drop (HT.sIx its.length 0 lo)).take (HT.sIx its.length its.length hi - HT.sIx its.length 0 lo)).toArray := by
  obtain ⟨h1, h2, h3⟩ := slice_bounds lo hi its.toArray.size
  unfold slicePick
  rw [h1, h2, h3]
  simp only [sliceRange_one, pick_run, List.size_toArray] <;> rfl
def rSlL (K : PySem.W.Frag) : V → Option Int → Option Int → Hp → VK → Prop := fun x lo hi H Q => ∃ a xs, x = .ref a ∧ SqL K H a xs ∧ ∀ p, H p = none → Q (.ref p) (upd H p (.lst (cutV xs lo hi)))
theorem sl_list : SlR X (rSlL X.K) := by
  intro pins s σ H x v vl vu lo hi sl Q I rx hs pl pu h
  obtain ⟨a, xs, rfl, hx, q⟩ := h
  cases rx
  obtain ⟨its, r, ht, hz⟩ := I.list hx
  have hlen := r.length
  refine ⟨"list", _, slot_list_getitem.lookup, ht.isList.typeIs, ?_⟩
  refine wpAny_getItem_list_slice ht.isList hs pl pu .none (by simp) ?_ (by rw [List.size_toArray] <;> omega)
  rw [slicePick_cut, ← hlen]
  refine ⟨.ref s.heap.objs.size, _, I.laid (t' := s.toks) (o := .lst (cutV xs lo hi)) (fun b ob q => Heap.get?_push_of_some _ q) (Nat.le_refl _) ?_, rfl, q _ (I.hok.fresh (Nat.le_refl _))⟩
  exact ⟨Nat.le_trans (cutV_length xs lo hi) hz, _, 0, (r.drop (HT.sIx xs.length 0 lo)).take (HT.sIx xs.length xs.length hi - HT.sIx xs.length 0 lo), Heap.get?_push_size _ rfl⟩
theorem call_len_seq : CallR X (.builtin "len") (fun xs H Q => ∃ p ys, xs = [.ref p] ∧ (SqL X.K H p ys ∨ SqT X.K H p ys) ∧ Q (.int ys.length) H) := by
  intro pins s σ H xs us Q I r h
  obtain ⟨p, ys, rfl, hq, q⟩ := h
  obtain ⟨u, rfl, rx⟩ := vals1 r
  cases rx
  have hn := line63
  rcases hq with hq | hq
  · obtain ⟨its, r', pl, hz⟩ := I.list hq
    have hlen := r'.length
    exact Calls.call_len_list pl.isList (by simp only [List.size_toArray] <;> omega) ⟨.int ys.length, H, I.tok _, ⟨s.toks + 1, by rw [List.size_toArray, hlen]⟩, q⟩
  · obtain ⟨its, r', pl, hz⟩ := I.tuple hq
    have hlen := r'.length
    exact len_tuple pl (by simp only [List.size_toArray] <;> omega) ⟨.int ys.length, H, I.tok _, ⟨s.toks + 1, by rw [List.size_toArray, hlen]⟩, q⟩
theorem call_list_of : CallR X (.type "list") (fun xs H Q => ∃ p ys, xs = [.ref p] ∧ (SqL X.K H p ys ∨ SqT X.K H p ys) ∧ ∀ l, H l = none → Q (.ref l) (upd H l (.lst ys))) := by
  intro pins s σ H xs us Q I r h
  obtain ⟨p, ys, rfl, hq, q⟩ := h
  obtain ⟨u, rfl, rx⟩ := vals1 r
  cases rx
  have fin : ∀ (its : List Value), Vals ys its → ys.length ≤ sizeLine → ∀ (h' : Heap) (c' : Nat), (∀ b o', s.heap.get? b = some o' → h'.get? b = some o') →
      h'.get? s.heap.objs.size = some { cls := .type "list", dict := none, data := .seq its.toArray c', slots := #[] } → EP X pins σ Q (.ref s.heap.objs.size) { s with heap := h' } := fun its r' hz h' c' kp e =>
    ⟨.ref s.heap.objs.size, _, I.laid (t' := s.toks) kp (Nat.le_refl _) (show ObjOk X.prog X.w _ h' _ (.lst ys) from ⟨hz, its, c', r', e⟩), rfl, q _ (I.hok.fresh (Nat.le_refl _))⟩
  rcases hq with hq | hq
  · obtain ⟨its, r', pl, hz⟩ := I.list hq
    have hlen := r'.length
    obtain ⟨o, ho, hc, n, hd⟩ := pl.isList
    exact call_list_seq p (.inl rfl) ho hc hd (fun h' c' kp e => fin its r' hz h' c' kp e) (by simp only [List.size_toArray] <;> omega)
  · obtain ⟨its, r', pl, hz⟩ := I.tuple hq
    have hlen := r'.length
    obtain ⟨o, ho, hc, n, hd⟩ := pl
    exact call_list_seq p (.inr rfl) ho hc hd (fun h' c' kp e => fin its r' hz h' c' kp e) (by simp only [List.size_toArray] <;> omega)
def tyV (K : PySem.W.Frag) (T : String) (x : V) (H : Hp) : Prop := match x with
  | .str _ => T = "str"
  | .int _ => T = "int"
  | .ref p => (T = "list" ∧ ∃ xs, SqL K H p xs) ∨ (T = "tuple" ∧ ∃ o, K.lookup p = some o ∧ o.cls = .type "tuple" ∧ o.dict = none) ∨
      (T = "dict" ∧ ((∃ kvs, H p = some (.dK kvs)) ∨ ∃ kvs, H p = some (.dT kvs))) ∨ (T = "set" ∧ ∃ S n, H p = some (.set S n))
  | _ => False
theorem tyV_is {pins : List (Addr × Obj)} {σ : St} {H : Hp} {s : Shared} {T : String} {x : V} {v : Value} (I : Inv X pins σ H s) (r : RelV x v) (ty : tyV X.K T x H) :
    s.TypeIs v T ∧ ∀ a, v = .ref a → ∃ ob, s.heap.get? a = some ob ∧ ob.dict = none := by
  cases x with
  | str z =>
    obtain ⟨t, rfl⟩ := r
    cases (show T = "str" from ty)
    exact ⟨typeIs_str s z t, fun _ e => nomatch e⟩
  | int i =>
    obtain ⟨t, rfl⟩ := r
    cases (show T = "int" from ty)
    exact ⟨typeIs_int s i t, fun _ e => nomatch e⟩
  | ref p =>
    cases r
    rcases ty with ⟨rfl, xs, hq⟩ | ⟨rfl, o, hk, hc, hd⟩ | ⟨rfl, hk⟩ | ⟨rfl, S, n, hk⟩
    · obtain ⟨its, _, pl, _⟩ := I.list hq
      refine ⟨pl.isList.typeIs, fun a e => ?_⟩
      cases e
      obtain ⟨o, n, e, c, hd, _⟩ := pl
      exact ⟨o, e, hd⟩
    · refine ⟨⟨o, I.kIn p o hk, hc⟩, fun a e => ?_⟩
      cases e
      exact ⟨o, I.kIn _ o hk, hd⟩
    · have z : ∃ o, s.heap.get? p = some o ∧ o.ExactDict := by
        rcases hk with ⟨kvs, hk⟩ | ⟨kvs, hk⟩
        · obtain ⟨_, _, _, _, o, _, _, e, ex, _⟩ := I.hok p _ hk
          exact ⟨o, e, ex⟩
        · obtain ⟨_, _, _, _, o, _, _, e, ex, _⟩ := I.hok p _ hk
          exact ⟨o, e, ex⟩
      obtain ⟨o, e, ex⟩ := z
      refine ⟨⟨o, e, ex.1⟩, fun a e2 => ?_⟩
      cases e2
      exact ⟨o, e, ex.2.1⟩
    · obtain ⟨o, _, _, _, e, ex, _⟩ := I.hok p _ hk
      refine ⟨⟨o, e, ex.1⟩, fun a e2 => ?_⟩
      cases e2
      exact ⟨o, e, ex.2.1⟩
  | _ => exact False.elim ty
def tBM0 (K : PySem.W.Frag) (T : String) (r : V → List V → Hp → VK → Prop) (to : TE) : TE := fun σ H Q => to σ H fun x H1 => tyV K T x H1 ∧ r x [] H1 Q
def tBM (K : PySem.W.Frag) (T : String) (r : V → List V → Hp → VK → Prop) (to : TE) (t : TA) : TE := fun σ H Q => to σ H fun x H1 => tyV K T x H1 ∧ t σ H1 fun xs H2 => r x xs H2 Q
variable {o e : Expr} {es : List Expr} {to : TE} {t : TA} {name : Str} {apos cpos : Pos} {T id : String} {r : V → List V → Hp → VK → Prop}
theorem pe_bm0 (pa : PlainAttrs T) (slot : Slot T name id) (hty : typeOf (.builtin id) = pure (.type "method_descriptor")) (hm : MtR X id r) (ho : PE X o to)
    (hbase : attributeBase o name X.env (eval o X.env) = eval o X.env := by rfl) (hline : (apos.endLine == cpos.line) = true := by rfl) : PE X (.Call (.Attribute o name apos) [] [] cpos) (tBM0 X.K T r to) := by
  intro pins s σ H Q I h
  refine wpAny_Call_method0_late hbase hline (thn (ho pins s σ H _ I h) fun v s1 ⟨x, H1, I1, r1, ty, q1⟩ => ?_)
  obtain ⟨h1, h2⟩ := tyV_is I1 r1 ty
  exact ⟨T, id, pa, slot, hty, h1, h2, Calls.callWith_builtin rfl (PySem.evalArgs_none (hm pins s1 σ H1 x [] v [] Q I1 r1 .nil q1))⟩
theorem pe_bm (pa : PlainAttrs T) (slot : Slot T name id) (hty : typeOf (.builtin id) = pure (.type "method_descriptor")) (hm : MtR X id r) (ho : PE X o to) (ha : PA X (e :: es) t)
    (hbase : attributeBase o name X.env (eval o X.env) = eval o X.env := by rfl)
    (hfew : ((backTo cpos (starEach (e :: es) X.env)).all (fun x => !x.1) && (backToKw cpos (keywordEach [] X.env)).all (fun x => x.1.isSome)
      && decide ((e :: es).length + ([] : List Keyword).length + (if ([] : List Keyword).isEmpty then 0 else 1) < 30)) = true := by rfl)
    (hline : (apos.endLine == cpos.line) = true := by rfl) (hs : starEach (e :: es) X.env = (false, eval e X.env) :: starEach es X.env := by rfl) (hplain : (backTo cpos (starEach es X.env)).any (·.1) = false := by rfl) :
    PE X (.Call (.Attribute o name apos) (e :: es) [] cpos) (tBM X.K T r to t) := by
  intro pins s σ H Q I h
  refine wpAny_Call_method_late hbase hfew hline rfl (thn (ho pins s σ H _ I h) fun v s1 ⟨x, H1, I1, r1, ty, q1⟩ => ?_)
  obtain ⟨h1, h2⟩ := tyV_is I1 r1 ty
  refine ⟨T, id, pa, slot, hty, h1, h2, ?_⟩
  have hA := ha cpos pins s1 σ H1 _ I1 q1
  rw [hs] at hA ⊢
  refine Calls.callWith_builtin (by show (false || (backTo cpos (starEach es X.env)).any (·.1)) = false; rw [hplain] <;> rfl) (Calls.evalArgs_plain ?_)
  exact thn hA fun us s2 ⟨vs, H2, I2, r2, q2⟩ => hm pins s2 σ H2 x vs v us Q I2 r1 r2 q2
end
end L2
namespace L2
open PySem PySem.Spec PyProof.Rows
def MtM (X : Cx) (id : String) (r : V → List V → Hp → VK → Prop) : Prop :=
  ∀ (pins : List (Addr × Obj)) (s : Shared) (σ : St) (H : Hp) (x : V) (xs : List V) (v : Value) (us : List Value) (Q : VK), Inv X pins σ H s → RelV x v → Vals xs us → r x xs H Q →
    wpAny (model X.prog X.w) X.A (call (.builtin id) (v :: us)) (EP X pins σ Q) X.xe s
theorem Vals.one : ∀ {x : V} {us : List Value}, Vals [x] us → ∃ u, us = [u] ∧ RelV x u
  | _, _, .cons r .nil => ⟨_, rfl, r⟩
theorem Vals.rep {xs : List V} {us : List Value} (h : Vals xs us) : ∀ k : Nat, Vals (List.replicate k xs).flatten (List.replicate k us).flatten
  | 0 => .nil
  | k + 1 => by
    rw [List.replicate_succ, List.replicate_succ, List.flatten_cons, List.flatten_cons]
    exact Vals.append h (Vals.rep h k)
theorem foldl_rep (its : List Value) : ∀ (k : Nat) (acc : List Value),
    List.foldl (fun x1 x2 => x1 ++ x2) acc.toArray (List.replicate k its.toArray) = (acc ++ (List.replicate k its).flatten).toArray
  | 0, acc => by simp
  | k + 1, acc => by
    have e : acc.toArray ++ its.toArray = (acc ++ its).toArray := by simp
    have e2 : (acc ++ its) ++ (List.replicate k its).flatten = acc ++ (List.replicate (k + 1) its).flatten := by
      rw [List.replicate_succ, List.flatten_cons, List.append_assoc]
    rw [← e2, ← foldl_rep its k (acc ++ its), ← e, List.replicate_succ, List.foldl_cons]
section
variable {X : Cx} {pins : List (Addr × Obj)} {σ : St} {H : Hp} {s : Shared} {l b : Addr} {xs ys zs : List V}
theorem Inv.lset {its its' : List Value} {n : Nat} {f : Array Value → Array Value} {t' : Nat} (I : Inv X pins σ H s) (hH : H l = some (.lst xs))
    (e : s.heap.get? l = some { cls := .type "list", data := .seq its.toArray n }) (hf : f its.toArray = its'.toArray) (hv : Vals ys its') (hz : ys.length ≤ sizeLine) :
    Inv X pins σ (upd H l (.lst ys)) { s with heap := s.heap.update l (Obj.mapSeq f), toks := t' } := by
  have q := PySem.IsL.update e f
  rw [hf] at q
  refine I.write (x := l) (e := l) (by rw [hH]; exact trivial) (.inl rfl) (fun b' u hb hu => (Heap.get?_update_other s.heap (Obj.mapSeq f) (Ne.symm hb)).trans hu) ⟨_, q⟩ ?_
  exact ⟨hz, its', _, hv, q⟩
theorem Inv.lnew {its : List Value} {t' : Nat} (I : Inv X pins σ H s) (hv : Vals ys its) (hz : ys.length ≤ sizeLine) :
    Inv X pins σ (upd H s.heap.objs.size (.lst ys)) { s with heap := s.heap.push { cls := .type "list", data := .seq its.toArray }, toks := t' } :=
  I.laid (fun _ _ q => Heap.get?_push_of_some _ q) (Nat.le_refl _) ⟨hz, its, 0, hv, Heap.get?_push_size _ rfl⟩
theorem Inv.fresh (I : Inv X pins σ H s) : H s.heap.objs.size = none := I.hok.fresh (Nat.le_refl _)
theorem Inv.lstM (I : Inv X pins σ H s) (hH : H l = some (.lst xs)) : xs.length ≤ sizeLine ∧ ∃ (its : List Value) (n : Nat), Vals xs its ∧ xs.length = its.length ∧ s.heap.get? l = some { cls := .type "list", data := .seq its.toArray n } := by
  obtain ⟨z, its, n, r, e⟩ := I.hok l _ hH
  exact ⟨z, its, n, r, r.length, e⟩
theorem notLongL {n : Nat} (h : n ≤ sizeLine) : Builtin.List.listTooLong n = false := by
  unfold Builtin.List.listTooLong
  exact decide_eq_false (by omega)
end
section
variable {X : Cx}
def rAppend : V → List V → Hp → VK → Prop := fun x vs H Q => ∃ l xs y, x = .ref l ∧ vs = [y] ∧ H l = some (.lst xs) ∧ xs.length < sizeLine ∧ Q .non (upd H l (.lst (xs ++ [y])))
theorem mt_append : MtM X "list.append" rAppend := by
  intro pins s σ H x vs v us Q I rx rv h
  obtain ⟨l, xs, y, rfl, rfl, hH, hz, q⟩ := h
  cases rx
  obtain ⟨u, rfl, ru⟩ := rv.one
  obtain ⟨z, its, n, r, hl, e⟩ := I.lstM hH
  refine call_meets F.slot_list_append ⟨_, e, rfl⟩ F.entry_list_append (F.args_list_append_2 _ _) (PySem.list_append l its.toArray n u (by rw [List.size_toArray]; omega)) ⟨e, ?_⟩
  refine ⟨.non, _, I.lset (its' := its ++ [u]) hH e (by simp) (r.append (.cons ru .nil)) ?_, rfl, q⟩
  rw [List.length_append, List.length_singleton]
  omega
def rExtend : V → List V → Hp → VK → Prop := fun x vs H Q => ∃ l b xs zs, x = .ref l ∧ vs = [.ref b] ∧ H l = some (.lst xs) ∧ H b = some (.lst zs) ∧ xs.length + zs.length ≤ sizeLine ∧ Q .non (upd H l (.lst (xs ++ zs)))
theorem mt_extend : MtM X "list.extend" rExtend := by
  intro pins s σ H x vs v us Q I rx rv h
  obtain ⟨l, b, xs, zs, rfl, rfl, hH, hB, hz, q⟩ := h
  cases rx
  obtain ⟨u, rfl, ru⟩ := rv.one
  cases ru
  obtain ⟨z, its, n, r, hl, e⟩ := I.lstM hH
  obtain ⟨z2, its2, n2, r2, hl2, e2⟩ := I.lstM hB
  have hsz : its.toArray.size + its2.toArray.size ≤ sizeLine := by rw [List.size_toArray, List.size_toArray]; omega
  have hlong : ¬ (!its.toArray.isEmpty && Builtin.List.listTooLong (its.toArray.size + its2.toArray.size)) = true := by
    rw [notLongL hsz, Bool.and_false]
    exact Bool.false_ne_true
  refine call_meets F.slot_list_extend ⟨_, e, rfl⟩ F.entry_list_extend (F.args_list_extend_2 _ _)
    (AutoSeq1.list_extend_list_list_0 l its.toArray n b its2.toArray n2 hlong (by rw [List.size_toArray]; omega) (by omega)) ⟨e, e2, ?_⟩
  refine ⟨.non, _, I.lset (its' := its ++ its2) hH e (by simp) (r.append r2) ?_, rfl, q⟩
  rw [List.length_append]
  omega
def rCat : R2 := fun x y H Q => ∃ l b xs zs, x = .ref l ∧ y = .ref b ∧ H l = some (.lst xs) ∧ H b = some (.lst zs) ∧ xs.length + zs.length ≤ sizeLine ∧ ∀ p, H p = none → Q (.ref p) (upd H p (.lst (xs ++ zs)))
theorem op_cat : OpR X (binaryOp .Add) rCat := by
  intro pins s σ H x y v u Q I rx ry h
  obtain ⟨l, b, xs, zs, rfl, rfl, hH, hB, hz, q⟩ := h
  cases rx
  cases ry
  obtain ⟨z, its, n, r, hl, e⟩ := I.lstM hH
  obtain ⟨z2, its2, n2, r2, hl2, e2⟩ := I.lstM hB
  refine PySem.P.add_list e e2 ?_ (by rw [List.size_toArray, List.size_toArray]; omega)
  have ea : its.toArray ++ its2.toArray = (its ++ its2).toArray := by simp
  rw [ea]
  exact ⟨.ref _, _, I.lnew (t' := s.toks) (r.append r2) (by rw [List.length_append]; omega), rfl, q _ I.fresh⟩
def rRep : R2 := fun x y H Q => ∃ l k xs, x = .ref l ∧ y = .int k ∧ H l = some (.lst xs) ∧ -(2 ^ 63) ≤ k ∧ k < 2 ^ 63 ∧ xs.length * k.toNat ≤ sizeLine ∧
  ∀ p, H p = none → Q (.ref p) (upd H p (.lst (List.replicate k.toNat xs).flatten))
theorem len_rep {α : Type} (xs : List α) (k : Nat) : (List.replicate k xs).flatten.length = k * xs.length := by
  induction k with
  | zero => simp
  | succ k ih => rw [List.replicate_succ, List.flatten_cons, List.length_append, ih, Nat.succ_mul, Nat.add_comm]
theorem op_rep : OpR X (binaryOp .Mult) rRep := by
  intro pins s σ H x y v u Q I rx ry h
  obtain ⟨l, k, xs, rfl, rfl, hH, h1, h2, hz, q⟩ := h
  cases rx
  obtain ⟨t, rfl⟩ := ry
  obtain ⟨z, its, n, r, hl, e⟩ := I.lstM hH
  have hlen : its.toArray.size * k.toNat ≤ sizeLine := by rw [List.size_toArray, ← hl]; exact hz
  have hcap : ¬ its.toArray.size * k.toNat > (2 ^ 63 - 1) / 8 := by
    have : (sizeLine : Nat) ≤ (2 ^ 63 - 1) / 8 := by decide
    omega
  have hfit : ¬ (!Builtin.List.listFitsIndex k) = true := by
    rw [fitsIndex_both h1 h2]
    exact Bool.false_ne_true
  have hlong : ¬ Builtin.List.listTooLong (its.toArray.size * k.toNat) = true := by
    rw [notLongL hlen]
    exact Bool.false_ne_true
  have hnew : List.foldl (fun x1 x2 => x1 ++ x2) #[] (List.replicate (if its.toArray.isEmpty = true then 0 else k.toNat) its.toArray) = (List.replicate k.toNat its).flatten.toArray := by
    have f0 : ∀ m : Nat, List.foldl (fun x1 x2 => x1 ++ x2) #[] (List.replicate m its.toArray) = (List.replicate m its).flatten.toArray := fun m => by
      have := foldl_rep its m []
      rw [List.nil_append] at this
      exact this
    rw [f0]
    cases its with
    | nil => simp
    | cons a r' => rw [if_neg (by simp)]
  refine wpAny_binaryOp_repeat_ref (T := "list") (U := "int") (by decide) ⟨_, e, rfl⟩ (fun s' => typeIs_int s' k t) noFill_list_mul F.fills_int_mul F.slot_int_rmul repeat_list F.slot_int_index.lookup
    (call_meets F.slot_int_rmul (typeIs_int s k t) F.entry_int_rmul (F.args_int_rmul_2 _ _) (int___rmul___int_list k t l its.toArray n)
      ⟨e, rfl, ⟨_, e, rfl⟩, call_meets F.slot_list_mul ⟨_, e, rfl⟩ F.entry_list_mul (F.args_list_mul_2 _ _) (AutoListH.list___mul___list_int_3 l its.toArray n k t hfit hcap hlong) ⟨e, ?_⟩⟩)
  rw [hnew]
  exact ⟨.ref _, _, I.lnew (t' := s.toks) (r.rep k.toNat) (by rw [len_rep, Nat.mul_comm]; exact hz), rfl, q _ I.fresh⟩
end
end L2
namespace L2
open PySem PySem.Spec PyProof.Rows
theorem Vals.ints : ∀ {ns : List Int} {us : List Value}, Vals (ns.map V.int) us → IntsAre us ns
  | [], us, h => by
    rw [List.map_nil] at h
    cases h
    exact IntsAre.nil
  | n :: ns, us, h => by
    rw [List.map_cons] at h
    cases h with
    | cons r t =>
      obtain ⟨k, rfl⟩ := r
      exact IntsAre.cons n k (Vals.ints t)
theorem Vals.bls : ∀ {bs : List Bool} {us : List Value}, Vals (bs.map V.bl) us → us = bs.map Value.bool
  | [], us, h => by
    rw [List.map_nil] at h
    cases h
    rfl
  | b :: bs, us, h => by
    rw [List.map_cons] at h
    cases h with
    | cons r t =>
      cases r
      rw [Vals.bls t, List.map_cons]
theorem Vals.ref1 {a : Addr} {us : List Value} (r : Vals [V.ref a] us) : us = [Value.ref a] := by
  cases r with
  | cons r t =>
    cases t
    cases r
    rfl
section
variable {prog : Program} {w : World} {A : Around} {E : Value → Shared → Prop} {s : Shared} {l : Addr} {its : List Value} {ns : List Int} {Q : Value → Shared → Prop}
theorem sum_raw (hh : A.handled = none) (hl : s.heap.IsList l its.toArray) (hi : IntsAre its ns)
    (h : ∀ h' tk t', (∀ b o, s.heap.get? b = some o → h'.get? b = some o) → Q (.int ns.sum t') { s with heap := h', toks := tk }) : wpAny (model prog w) A (call (.builtin "sum") [.ref l]) Q E s := by
  obtain ⟨xs, e⟩ := hi.allInts.items
  have hn : numsOf (intItems xs).toList = ns := by rw [← e]; exact hi.numsOf
  rw [nums_intItems] at hn
  rw [e] at hl
  refine PySem.sum_intListG hh hl fun h' tk t' hk => ?_
  have := h h' tk t' hk
  rw [preSum_eq, List.take_of_length_le (by simp), hn]; exact this
theorem max_raw (hh : A.handled = none) (hl : s.heap.IsList l its.toArray) (hi : IntsAre its ns) (hne : 0 < ns.length)
    (h : ∀ h' tk M t', (∀ b o, s.heap.get? b = some o → h'.get? b = some o) → M ∈ ns → (∀ a, a ∈ ns → a ≤ M) → Q (.int M t') { s with heap := h', toks := tk }) : wpAny (model prog w) A (call (.builtin "max") [.ref l]) Q E s := by
  obtain ⟨xs, e⟩ := hi.allInts.items
  have hn : numsOf (intItems xs).toList = ns := by rw [← e]; exact hi.numsOf
  rw [nums_intItems] at hn
  subst hn
  rw [e] at hl
  have hsz : 0 < xs.size := by simpa using hne
  refine PySem.max_intList hh hl hsz fun v h' tk hv hk => ?_
  obtain ⟨t, rfl⟩ := intItems_at hv
  obtain ⟨h1, h2⟩ := argBest_gt (numAt xs) (xs.size - 1)
  refine h h' tk _ t hk ?_ fun a ha => ?_
  · rw [numAt_eq]; exact PySem.getD_mem (by rw [List.length_map, Array.length_toList]; omega)
  · obtain ⟨j, hj, rfl⟩ := mem_getD ha
    rw [List.length_map, Array.length_toList] at hj
    rw [← numAt_eq]; exact h2 j (by omega)
theorem min_raw (hh : A.handled = none) (hl : s.heap.IsList l its.toArray) (hi : IntsAre its ns) (hne : 0 < ns.length)
    (h : ∀ h' tk M t', (∀ b o, s.heap.get? b = some o → h'.get? b = some o) → M ∈ ns → (∀ a, a ∈ ns → M ≤ a) → Q (.int M t') { s with heap := h', toks := tk }) : wpAny (model prog w) A (call (.builtin "min") [.ref l]) Q E s := by
  obtain ⟨xs, e⟩ := hi.allInts.items
  have hn : numsOf (intItems xs).toList = ns := by rw [← e]; exact hi.numsOf
  rw [nums_intItems] at hn
  subst hn
  rw [e] at hl
  have hsz : 0 < xs.size := by simpa using hne
  refine PySem.min_intList hh hl hsz fun v h' tk hv hk => ?_
  obtain ⟨t, rfl⟩ := intItems_at hv
  obtain ⟨h1, h2⟩ := argBest_lt (numAt xs) (xs.size - 1)
  refine h h' tk _ t hk ?_ fun a ha => ?_
  · rw [numAt_eq]; exact PySem.getD_mem (by rw [List.length_map, Array.length_toList]; omega)
  · obtain ⟨j, hj, rfl⟩ := mem_getD ha
    rw [List.length_map, Array.length_toList] at hj
    rw [← numAt_eq]; exact h2 j (by omega)
end
section
variable {X : Cx}
def rSum (K : PySem.W.Frag) : List V → Hp → VK → Prop := fun vs H Q => ∃ (a : Addr) (ns : List Int), vs = [V.ref a] ∧ SqL K H a (ns.map V.int) ∧ Q (.int ns.sum) H
def rMax (K : PySem.W.Frag) : List V → Hp → VK → Prop := fun vs H Q => ∃ (a : Addr) (ns : List Int), vs = [V.ref a] ∧ SqL K H a (ns.map V.int) ∧ 0 < ns.length ∧ ∀ m, m ∈ ns → (∀ y, y ∈ ns → y ≤ m) → Q (.int m) H
def rMin (K : PySem.W.Frag) : List V → Hp → VK → Prop := fun vs H Q => ∃ (a : Addr) (ns : List Int), vs = [V.ref a] ∧ SqL K H a (ns.map V.int) ∧ 0 < ns.length ∧ ∀ m, m ∈ ns → (∀ y, y ∈ ns → m ≤ y) → Q (.int m) H
theorem cr_sum (hc : X.calm = true) : CallR X (.builtin "sum") (rSum X.K) := by
  intro pins s σ H vs us Q I r h
  obtain ⟨a, ns, rfl, hs, q⟩ := h
  obtain ⟨its, rv, hl, _⟩ := I.list hs
  rw [Vals.ref1 r]
  exact sum_raw (I.ok.hd hc) hl.isList rv.ints fun h' tk t' hk => ⟨.int _, H, I.kept hk, ⟨_, rfl⟩, q⟩
theorem cr_max (hc : X.calm = true) : CallR X (.builtin "max") (rMax X.K) := by
  intro pins s σ H vs us Q I r h
  obtain ⟨a, ns, rfl, hs, hne, q⟩ := h
  obtain ⟨its, rv, hl, _⟩ := I.list hs
  rw [Vals.ref1 r]
  exact max_raw (I.ok.hd hc) hl.isList rv.ints hne fun h' tk m t' hk h1 h2 => ⟨.int _, H, I.kept hk, ⟨_, rfl⟩, q m h1 h2⟩
theorem cr_min (hc : X.calm = true) : CallR X (.builtin "min") (rMin X.K) := by
  intro pins s σ H vs us Q I r h
  obtain ⟨a, ns, rfl, hs, hne, q⟩ := h
  obtain ⟨its, rv, hl, _⟩ := I.list hs
  rw [Vals.ref1 r]
  exact min_raw (I.ok.hd hc) hl.isList rv.ints hne fun h' tk m t' hk h1 h2 => ⟨.int _, H, I.kept hk, ⟨_, rfl⟩, q m h1 h2⟩
end
theorem iter_any {prog : Program} {w : World} {A : Around} {E : Value → Shared → Prop} {s : Shared} {l : Addr} {items : Array Value} {Q : Value → Shared → Prop} (hl : s.heap.IsList l items)
    (h : ∀ s₂ : Shared, s₂ = { s with heap := s.heap.push { cls := .type "list_iterator", data := .fields #[.ref l, .int 0 0] } } →
      (s₂.heap.IsListIter s.heap.objs.size l 0 ∧ s₂.heap.IsList l items) → l ≠ s.heap.objs.size → Q (.ref s.heap.objs.size) s₂) : wpAny (model prog w) A (pyIter (.ref l)) Q E s := by
  have hlt : l < s.heap.objs.size := by obtain ⟨_, e, _⟩ := hl; exact Heap.lt_size e
  exact wpAny_pyIter_list hl (h _ rfl ⟨⟨_, Heap.get?_push_size _ rfl, rfl, rfl⟩, hl.push _⟩ (Nat.ne_of_lt hlt))
theorem truth_bools {prog : Program} {w : World} {A : Around} {bs : List Bool} {its : List Value} (e : its = bs.map Value.bool) :
    TruthOf prog w A (fun i v => its.toArray[i]? = some v) (fun i => bs.getD i false) := fun i v s Q E hv hq => by
  have hv' : its[i]? = some v := by simpa using hv
  rw [e, List.getElem?_map] at hv'
  obtain ⟨b, hb, rfl⟩ := Option.map_eq_some_iff.mp hv'
  have hg : bs.getD i false = b := by rw [List.getD_eq_getElem?_getD, hb] <;> rfl
  have hq' : Q (bs.getD i false) s := hq
  rw [hg] at hq'
  exact wpAny_truthy_bool hq'
theorem any_range : ∀ bs : List Bool, (List.range bs.length).any (fun i => bs.getD i false) = bs.any id
  | [] => rfl
  | b :: bs => by
    rw [List.length_cons, List.range_succ_eq_map, List.any_cons, List.any_map, List.any_cons, ← any_range bs]
    all_goals rfl
theorem all_range : ∀ bs : List Bool, (List.range bs.length).all (fun i => bs.getD i false) = bs.all id
  | [] => rfl
  | b :: bs => by
    rw [List.length_cons, List.range_succ_eq_map, List.all_cons, List.all_map, List.all_cons, ← all_range bs]
    all_goals rfl
section
variable {X : Cx}
def rAny (K : PySem.W.Frag) : List V → Hp → VK → Prop := fun vs H Q => ∃ (a : Addr) (bs : List Bool), vs = [V.ref a] ∧ SqL K H a (bs.map V.bl) ∧ Q (.bl (bs.any id)) H
def rAll (K : PySem.W.Frag) : List V → Hp → VK → Prop := fun vs H Q => ∃ (a : Addr) (bs : List Bool), vs = [V.ref a] ∧ SqL K H a (bs.map V.bl) ∧ Q (.bl (bs.all id)) H
theorem cr_any (hc : X.calm = true) : CallR X (.builtin "any") (rAny X.K) := by
  intro pins s σ H vs us Q I r h
  obtain ⟨a, bs, rfl, hs, q⟩ := h
  obtain ⟨its, rv, hl, _⟩ := I.list hs
  rw [Vals.ref1 r]
  have hb := rv.bls
  refine call_any_walk (iter_any hl.isList fun s₂ e2 st hne => ?_)
  subst e2
  refine ⟨_, _, _, _, _, _, _, rfl, Walks.list (A := X.A.in1) (I.ok.hd hc) _ a hne its.toArray, st, truth_bools hb, fun h' tk hk => ?_⟩
  refine ⟨.bl _, H, I.kept fun b o eo => hk b o (fun hmem => ?_) (Heap.get?_push_of_some _ eo), ?_, q⟩
  · rcases List.mem_cons.mp hmem with e1 | hmem
    · exact absurd (e1 ▸ Heap.lt_size eo) (Nat.lt_irrefl _)
    · cases hmem
  · show Value.bool _ = Value.bool _
    rw [← any_range, hb, List.size_toArray, List.length_map]
theorem cr_all (hc : X.calm = true) : CallR X (.builtin "all") (rAll X.K) := by
  intro pins s σ H vs us Q I r h
  obtain ⟨a, bs, rfl, hs, q⟩ := h
  obtain ⟨its, rv, hl, _⟩ := I.list hs
  rw [Vals.ref1 r]
  have hb := rv.bls
  refine call_all_walk (iter_any hl.isList fun s₂ e2 st hne => ?_)
  subst e2
  refine ⟨_, _, _, _, _, _, _, rfl, Walks.list (A := X.A.in1) (I.ok.hd hc) _ a hne its.toArray, st, truth_bools hb, fun h' tk hk => ?_⟩
  refine ⟨.bl _, H, I.kept fun b o eo => hk b o (fun hmem => ?_) (Heap.get?_push_of_some _ eo), ?_, q⟩
  · rcases List.mem_cons.mp hmem with e1 | hmem
    · exact absurd (e1 ▸ Heap.lt_size eo) (Nat.lt_irrefl _)
    · cases hmem
  · show Value.bool _ = Value.bool _
    rw [← all_range, hb, List.size_toArray, List.length_map]
end
end L2
namespace L2
open PySem PySem.Spec PyProof.Rows
abbrev CellAt (h : Heap) (c : Addr) (v : Option Value) : Prop := h.IsCell c v
def relS (scope sc : Scope) : Scope :=
  { scope with names := scope.names.map fun (n, k) => if (k == .free && sc.kind == .function && sc.names.lookup n == some .cell) then (n, .cell) else (n, k) }
def cloFrom (cells : List (Str × Addr)) : List (Str × NameKind) → List (Str × Addr) → List (Str × Addr)
  | [], acc => acc
  | (n, k) :: r, acc => if k == .free then cloFrom cells r ((n, (cells.lookup n).getD 0) :: acc) else cloFrom cells r acc
theorem closure_loop (env : Env) (f : Str × NameKind → List (Str × Addr) → Sem (ForInStep (List (Str × Addr))))
    (hf : ∀ n k c, f (n, k) c = if k == .free then (do let a ← cellOf env n; pure (.yield ((n, a) :: c))) else pure (.yield c)) :
    ∀ (names : List (Str × NameKind)) (acc : List (Str × Addr)), (∀ y ∈ names, y.2 = .free → ∃ c, env.cells.lookup y.1 = some c) → forIn names acc f = pure (cloFrom env.cells names acc)
  | [], acc, _ => by rw [List.forIn_nil]; rfl
  | (n, k) :: r, acc, h => by
    rw [List.forIn_cons, hf]
    have ih := fun acc => closure_loop env f hf r acc fun y hy => h y (List.mem_cons_of_mem _ hy)
    unfold cloFrom
    by_cases hk : (k == NameKind.free) = true
    · rw [if_pos hk, if_pos hk]
      obtain ⟨c, hc⟩ := h (n, k) List.mem_cons_self (by simpa using hk)
      have e : cellOf env n = pure c := by unfold cellOf; rw [hc]
      rw [e]
      have e2 : (env.cells.lookup n).getD 0 = c := by rw [hc]; rfl
      rw [e2]
      exact ih _
    · rw [if_neg hk, if_neg hk]
      exact ih _
theorem closure_ok {scope : Scope} {env : Env} (h : ∀ y ∈ scope.names, y.2 = .free → ∃ c, env.cells.lookup y.1 = some c) : closureFor scope env = pure (cloFrom env.cells scope.names []) := by
  simp only [closureFor]
  rw [closure_loop env _ (fun n k c => rfl) scope.names [] h]
  rfl
theorem mem_lookup {α : Type} : ∀ {l : List (Str × α)} {n : Str} {c : α}, (n, c) ∈ l → ∃ c', l.lookup n = some c'
  | (k, v) :: r, n, c, h => by
    rw [List.lookup_cons]
    cases hb : n == k with
    | true => exact ⟨_, rfl⟩
    | false =>
      rcases List.mem_cons.mp h with e | h
      · cases e; simp at hb
      · exact mem_lookup h
theorem cloFrom_mem {cells : List (Str × Addr)} : ∀ {names : List (Str × NameKind)} {acc : List (Str × Addr)} {n : Str} {c : Addr}, (n, c) ∈ cloFrom cells names acc → (n, c) ∈ acc ∨ ((n, .free) ∈ names ∧ c = (cells.lookup n).getD 0)
  | [], _, _, _, h => .inl h
  | (m, k) :: r, acc, n, c, h => by
    unfold cloFrom at h
    split at h
    · rename_i hk
      have hk : k = .free := by simpa using hk
      rcases cloFrom_mem h with h | ⟨h1, h2⟩
      · rcases List.mem_cons.mp h with e | h
        · cases e; exact .inr ⟨hk ▸ List.mem_cons_self, rfl⟩
        · exact .inl h
      · exact .inr ⟨List.mem_cons_of_mem _ h1, h2⟩
    · rcases cloFrom_mem h with h | ⟨h1, h2⟩
      · exact .inl h
      · exact .inr ⟨List.mem_cons_of_mem _ h1, h2⟩
theorem cloFrom_acc {cells : List (Str × Addr)} : ∀ {names : List (Str × NameKind)} {acc : List (Str × Addr)} {p : Str × Addr}, p ∈ acc → p ∈ cloFrom cells names acc
  | [], _, _, h => h
  | (m, k) :: r, acc, p, h => by
    unfold cloFrom
    split
    · exact cloFrom_acc (List.mem_cons_of_mem _ h)
    · exact cloFrom_acc h
theorem cloFrom_has {cells : List (Str × Addr)} : ∀ {names : List (Str × NameKind)} {acc : List (Str × Addr)} {n : Str}, (n, .free) ∈ names → (n, (cells.lookup n).getD 0) ∈ cloFrom cells names acc
  | (m, k) :: r, acc, n, h => by
    unfold cloFrom
    rcases List.mem_cons.mp h with e | h
    · cases e
      exact cloFrom_acc List.mem_cons_self
    · split
      · exact cloFrom_has h
      · exact cloFrom_has h
theorem cells_mem : ∀ {names : List (Str × NameKind)} {h : Heap} {acc : List (Str × Addr)} {x : Str} {c : Addr}, (x, c) ∈ cellsFrom h.objs.size names acc →
    (x, c) ∈ acc ∨ ((x, .cell) ∈ names ∧ h.objs.size ≤ c ∧ CellAt (pushCells h names) c none)
  | [], _, _, _, _, h => .inl h
  | (n, k) :: r, h, acc, x, c, hm => by
    unfold cellsFrom at hm
    unfold pushCells
    split at hm
    · rename_i hk
      rw [if_pos hk]
      have hk : k = .cell := by simpa using hk
      rw [← Heap.size_push h { cls := .type "cell", data := .cell none }] at hm
      rcases cells_mem hm with hm | ⟨h1, h2, h3⟩
      · rcases List.mem_cons.mp hm with e | hm
        · cases e
          exact .inr ⟨hk ▸ List.mem_cons_self, Nat.le_refl _, _, pushCells_keeps r _ _ _ (Heap.get?_push_size _ rfl), rfl⟩
        · exact .inl hm
      · rw [Heap.size_push] at h2
        exact .inr ⟨List.mem_cons_of_mem _ h1, Nat.le_of_succ_le h2, h3⟩
    · rename_i hk
      rw [if_neg hk]
      rcases cells_mem hm with hm | ⟨h1, h2, h3⟩
      · exact .inl hm
      · exact .inr ⟨List.mem_cons_of_mem _ h1, h2, h3⟩
theorem cells_acc : ∀ {names : List (Str × NameKind)} {n : Nat} {acc : List (Str × Addr)} {p : Str × Addr}, p ∈ acc → p ∈ cellsFrom n names acc
  | [], _, _, _, h => h
  | (m, k) :: r, n, acc, p, h => by
    unfold cellsFrom
    split
    · exact cells_acc (List.mem_cons_of_mem _ h)
    · exact cells_acc h
theorem cells_has : ∀ {names : List (Str × NameKind)} {n : Nat} {acc : List (Str × Addr)} {x : Str}, (x, .cell) ∈ names → ∃ c, (x, c) ∈ cellsFrom n names acc
  | (m, k) :: r, n, acc, x, h => by
    unfold cellsFrom
    rcases List.mem_cons.mp h with e | h
    · cases e
      exact ⟨n, cells_acc List.mem_cons_self⟩
    · split
      · exact cells_has h
      · exact cells_has h
theorem cells_inj : ∀ {names : List (Str × NameKind)} {h : Heap} {acc : List (Str × Addr)} {x y : Str} {c : Addr}, (∀ p ∈ acc, p.2 < h.objs.size) → (∀ x y c, (x, c) ∈ acc → (y, c) ∈ acc → x = y) →
    (x, c) ∈ cellsFrom h.objs.size names acc → (y, c) ∈ cellsFrom h.objs.size names acc → x = y
  | [], _, _, _, _, _, _, hi, h1, h2 => hi _ _ _ h1 h2
  | (n, k) :: r, h, acc, x, y, c, hl, hi, h1, h2 => by
    unfold cellsFrom at h1 h2
    split at h1
    · rename_i hk
      rw [if_pos hk] at h2
      rw [← Heap.size_push h { cls := .type "cell", data := .cell none }] at h1 h2
      refine cells_inj (h := h.push _) (fun p hp => ?_) (fun x y c a b => ?_) h1 h2
      · rw [Heap.size_push]
        rcases List.mem_cons.mp hp with rfl | hp
        · exact Nat.lt_succ_self _
        · exact Nat.lt_succ_of_lt (hl p hp)
      · rcases List.mem_cons.mp a with e | a <;> rcases List.mem_cons.mp b with e' | b
        · cases e; cases e'; rfl
        · cases e; exact absurd (hl _ b) (Nat.lt_irrefl _)
        · cases e'; exact absurd (hl _ a) (Nat.lt_irrefl _)
        · exact hi _ _ _ a b
    · rename_i hk
      rw [if_neg hk] at h2
      exact cells_inj hl hi h1 h2
theorem newEnv_comp {M : Model} {A : Around} {E : Value → Shared → Prop} {s : Shared} {scope : Scope} {globals : Addr} {closure : List (Str × Addr)} {qual : Str} {func : Option Addr} {code : Value} {around : Env} {builtins : Addr} {Q : Env → Shared → Prop}
    (h : Q (newEnv scope s.heap.objs.size globals (cellsFrom (s.heap.objs.size + 1) scope.names closure) qual func code (some around) builtins)
      { s with heap := pushCells (s.heap.push { cls := .type "dict", data := .dict #[] }) scope.names }) :
    wpAny M A (newFunctionEnv scope globals closure [] qual func code (some around) builtins) Q E s := by
  simp only [newFunctionEnv, Option.isSome_some, if_true]
  refine wpAny_bind (wpAny_alloc ?_)
  refine wpAny_bind (wpAny_layCells _ (fun n k c => rfl) scope.names closure _ _ ?_)
  rw [show ({ s with heap := s.heap.push { cls := .type "dict", data := .dict #[] } } : Shared).heap.objs.size = s.heap.objs.size + 1 from Heap.size_push ..]
  rw [List.forIn_nil]
  exact wpAny_bind (wpAny_pure (wpAny_pure h))
theorem lookup_relS {sc : Scope} : ∀ {names : List (Str × NameKind)} {x : Str} {k : NameKind},
    (names.map fun (n, k) => if (k == NameKind.free && sc.kind == .function && sc.names.lookup n == some .cell) then (n, NameKind.cell) else (n, k)).lookup x = some k →
    ∃ k', names.lookup x = some k' ∧ (k = k' ∨ (k' = .free ∧ k = .cell))
  | [], _, _, h => by simp at h
  | (n, k₀) :: r, x, k, h => by
    have ih := @lookup_relS sc r x k
    have h' : List.lookup x ((if (k₀ == NameKind.free && sc.kind == .function && sc.names.lookup n == some .cell) = true then (n, NameKind.cell) else (n, k₀)) :: (r.map _)) = some k := h
    cases hx : x == n with
    | true =>
      simp only [List.lookup_cons, hx]
      by_cases hc : (k₀ == NameKind.free && sc.kind == .function && sc.names.lookup n == some .cell) = true
      · rw [if_pos hc] at h'
        simp only [List.lookup_cons, hx] at h'
        cases h'
        simp only [Bool.and_eq_true, beq_iff_eq] at hc
        exact ⟨k₀, rfl, .inr ⟨hc.1.1, rfl⟩⟩
      · rw [if_neg hc] at h'
        simp only [List.lookup_cons, hx] at h'
        cases h'
        exact ⟨_, rfl, .inl rfl⟩
    | false =>
      simp only [List.lookup_cons, hx]
      by_cases hc : (k₀ == NameKind.free && sc.kind == .function && sc.names.lookup n == some .cell) = true
      · rw [if_pos hc] at h'
        simp only [List.lookup_cons, hx] at h'
        exact ih h'
      · rw [if_neg hc] at h'
        simp only [List.lookup_cons, hx] at h'
        exact ih h'
structure BlkOk (N : List Str) (sc scope : Scope) (own : List (Str × Nat)) : Prop where
  kind : scope.kind = .function
  uniq : ∀ y ∈ scope.names, scope.names.lookup y.1 = some y.2
  ix : ∀ p ∈ own, N[p.2]? = some p.1
  free : ∀ y ∈ scope.names, y.2 = .free → sc.names.lookup y.1 = some .cell ∨ sc.names.lookup y.1 = some .free
  own : ∀ y ∈ scope.names, y.2 = .local ∨ y.2 = .cell → y.1 ∈ own.map (·.1) ∨ y.1 ∉ N
def wipe (σ : St) : List Nat → St
  | [] => σ
  | v :: vs => (wipe σ vs).set v none
theorem wipe_length (σ : St) : ∀ vs : List Nat, (wipe σ vs).length = σ.length
  | [] => rfl
  | v :: vs => by unfold wipe; rw [List.length_set, wipe_length σ vs]
theorem wipe_some {σ : St} {i : Nat} {x : V} : ∀ {vs : List Nat}, (wipe σ vs)[i]? = some (some x) → σ[i]? = some (some x) ∧ i ∉ vs
  | [], h => ⟨h, by simp⟩
  | v :: vs, h => by
    unfold wipe at h
    by_cases hi : v = i
    · subst hi
      by_cases hv : v < (wipe σ vs).length
      · rw [List.getElem?_set_self hv] at h; cases h
      · rw [List.getElem?_eq_none (by simpa using hv)] at h; cases h
    · rw [List.getElem?_set_ne hi] at h
      obtain ⟨h1, h2⟩ := wipe_some h
      exact ⟨h1, by simp only [List.mem_cons, not_or]; exact ⟨fun e => hi e.symm, h2⟩⟩
abbrev Cx.blk (X : Cx) (s : Shared) (H : Hp) (scope : Scope) (cenv : Env) (fp : List Addr) : Cx := { X with s_0 := s, H_0 := H, env := cenv, outer := X.stack, ex := fp, fn := fun x => scope.names.lookup x == some .cell, pn := [], xe := fun _ _ => False }
section
variable {X : Cx} {pins : List (Addr × Obj)} {σ : St} {H : Hp} {s : Shared}
theorem block_start {scope : Scope} {own : List (Str × Nat)} {fp : List Addr} (I : Inv X pins σ H s) (ok : BlkOk X.N X.env.scope scope own) (hN : X.N.Nodup) (hfp : ∀ b ∈ fp, FpOk X pins H b ∧ b < s.heap.objs.size) :
    Inv (X.blk s H scope (compEnvC scope (cellsFrom (s.heap.objs.size + 1) scope.names (cloFrom X.env.cells scope.names [])) s.heap.objs.size X.env) fp) [] (wipe σ (own.map (·.2))) H { s with heap := pushCells (s.heap.push { cls := .type "dict", data := .dict #[] }) scope.names } := by
  have hfree : ∀ y ∈ scope.names, y.2 = .free → ∃ c, X.env.cells.lookup y.1 = some c := fun y hy e => by
    rcases ok.free y hy e with k | k
    · exact I.ok.has _ (.inl k)
    · exact I.ok.has _ (.inr k)
  generalize hcenv : compEnvC scope (cellsFrom (s.heap.objs.size + 1) scope.names (cloFrom X.env.cells scope.names [])) s.heap.objs.size X.env = cenv
  have kp : ∀ b o, s.heap.get? b = some o → (pushCells (s.heap.push { cls := .type "dict", data := .dict #[] }) scope.names).get? b = some o := fun b o e => pushCells_keeps _ _ _ _ (Heap.get?_push_of_some _ e)
  have hL : cenv.locals = s.heap.objs.size := by rw [← hcenv]; rfl
  have hcl : cenv.cells = cellsFrom (s.heap.objs.size + 1) scope.names (cloFrom X.env.cells scope.names []) := by rw [← hcenv]; rfl
  have hsc : cenv.scope = relS scope X.env.scope := by rw [← hcenv]; rfl
  rw [← Heap.size_push s.heap { cls := .type "dict", data := .dict #[] }] at hcl
  have cm : ∀ {y c}, (y, c) ∈ cloFrom X.env.cells scope.names [] → X.env.cells.lookup y = some c ∧ c < s.heap.objs.size := fun {y c} hm => by
    rcases cloFrom_mem hm with hm | ⟨h1, rfl⟩
    · cases hm
    · obtain ⟨c, hc⟩ := hfree _ h1 rfl
      rw [hc]
      obtain ⟨w, z⟩ := I.cell _ _ hc
      exact ⟨rfl, z.lt⟩
  have mem : ∀ {y c}, cenv.cells.lookup y = some c → (X.env.cells.lookup y = some c ∧ c < s.heap.objs.size) ∨ (s.heap.objs.size + 1 ≤ c ∧ CellAt (pushCells (s.heap.push { cls := .type "dict", data := .dict #[] }) scope.names) c none) := fun {y c} e => by
    rw [hcl] at e
    rcases cells_mem (PySem.mem_of_lookup e) with hm | ⟨_, h2, h3⟩
    · exact .inl (cm hm)
    · rw [Heap.size_push] at h2; exact .inr ⟨h2, h3⟩
  have look : ∀ {y}, scope.names.lookup y = some .free → ∃ c, cenv.cells.lookup y = some c ∧ X.env.cells.lookup y = some c := fun {y} hl => by
    have hy : (y, NameKind.free) ∈ scope.names := PySem.mem_of_lookup hl
    obtain ⟨c', e'⟩ := mem_lookup (cells_acc (names := scope.names) (n := (s.heap.push { cls := .type "dict", data := .dict #[] }).objs.size) (cloFrom_has (cells := X.env.cells) (acc := []) hy))
    rw [← hcl] at e'
    refine ⟨c', e', ?_⟩
    rw [hcl] at e'
    rcases cells_mem (PySem.mem_of_lookup e') with hm | ⟨h1, _, _⟩
    · exact (cm hm).1
    · have := ok.uniq _ h1
      rw [hl] at this; cases this
  have okB : (X.blk s H scope cenv fp).Ok := by
    refine ⟨I.ok.mod, by show cenv.scope.kind = _; rw [hsc]; exact ok.kind, by show cenv.globals = _; rw [← hcenv]; exact I.ok.glob, by show cenv.builtins = _; rw [← hcenv]; exact I.ok.blt, by show s.heap.objs.size ≤ cenv.locals; rw [hL]; exact Nat.le_refl _,
      fun y z c e1 e2 => ?_, fun y hy => ?_, fun y c z e => ?_, I.ok.hd, I.ok.frames, .inl rfl, fun b hb => ⟨?_, fun y c e z => ?_⟩, I.bs, Nat.le_trans I.ok.bsz I.sz, fun b o e hb => ?_, fun b hb z => ?_, I.stack, I.stkFree⟩
    · have e1 : cenv.cells.lookup y = some c := e1
      have e2 : cenv.cells.lookup z = some c := e2
      rw [hcl] at e1 e2
      refine cells_inj (fun p hp => ?_) (fun y z c a b => I.ok.inj y z c (cm a).1 (cm b).1) (PySem.mem_of_lookup e1) (PySem.mem_of_lookup e2)
      rw [Heap.size_push]
      exact Nat.lt_succ_of_lt (cm (y := p.1) (c := p.2) hp).2
    · show ∃ c, cenv.cells.lookup y = some c
      have key : ∀ k, cenv.kindOf y = some k → (k = .cell ∨ k = .free) → ∃ c, cenv.cells.lookup y = some c := fun k hk hk' => by
        unfold Env.kindOf at hk
        rw [hsc] at hk
        obtain ⟨k', e, r⟩ := lookup_relS hk
        have : k' = .cell ∨ k' = .free := by
          rcases r with rfl | ⟨rfl, _⟩
          · exact hk'
          · exact .inr rfl
        rcases this with rfl | rfl
        · obtain ⟨c, hm⟩ := cells_has (n := (s.heap.push { cls := .type "dict", data := .dict #[] }).objs.size) (acc := cloFrom X.env.cells scope.names []) (PySem.mem_of_lookup e)
          obtain ⟨c', e'⟩ := mem_lookup hm
          exact ⟨c', by rw [hcl]; exact e'⟩
        · obtain ⟨c, h1, _⟩ := look e
          exact ⟨c, h1⟩
      rcases hy with hy | hy
      · exact key _ hy (.inl rfl)
      · exact key _ hy (.inr rfl)
    · have z : (scope.names.lookup y == some NameKind.cell) = true := z
      have z : scope.names.lookup y = some .cell := by simpa using z
      have e : cenv.cells.lookup y = some c := e
      rw [hcl] at e
      rcases cells_mem (PySem.mem_of_lookup e) with hm | ⟨_, h2, _⟩
      · rcases cloFrom_mem hm with hm | ⟨h1, _⟩
        · cases hm
        · have q := ok.uniq _ h1
          rw [z] at q; cases q
      · rw [Heap.size_push] at h2
        exact Nat.le_of_succ_le h2
    · show b ≠ cenv.locals
      rw [hL]; exact Nat.ne_of_lt (hfp b hb).2
    · have e : cenv.cells.lookup y = some c := e
      rcases mem e with ⟨h1, _⟩ | ⟨h1, _⟩
      · exact (hfp b hb).1.2.2.2.2.1 y c h1 z
      · have h2 : s.heap.objs.size + 1 ≤ b := by rw [← z]; exact h1
        exact absurd (Nat.lt_of_lt_of_le (hfp b hb).2 (Nat.le_of_succ_le h2)) (Nat.lt_irrefl _)
    · rcases (hfp b hb).1.2.2.2.1 with z | z
      · exact I.ok.noex b o e z
      · exact absurd (Nat.lt_of_lt_of_le (Heap.lt_size e) (Nat.le_trans I.ok.bsz z)) (Nat.lt_irrefl _)
    · rcases List.mem_cons.mp (I.stkSub b z) with z | z
      · exact (hfp b hb).1.2.1 z
      · exact (hfp b hb).1.2.2.1 z
  refine ⟨okB, rfl, I.bare, Un.kept kp, ⟨fun _ => none, ?_, fun i y av e1 e2 e3 => ?_⟩, fun y c e => ?_, ?_, fun y c e => ?_, fun p hp => ?_, I.hok.kept kp, by rw [wipe_length]; exact I.len⟩
  · show Heap.Ns _ cenv.locals _
    rw [hL]
    exact Heap.Ns.keeps (Heap.Ns.new ..) fun b o e => pushCells_keeps _ _ _ _ e
  · obtain ⟨e2, hne⟩ := wipe_some e2
    have hfr : scope.names.lookup y = some .free ∧ (cenv.kindOf y = some .cell ∨ cenv.kindOf y = some .free) := by
      have key : ∀ k, cenv.scope.names.lookup y = some k → k = .local ∨ k = .cell ∨ k = .free → scope.names.lookup y = some .free ∧ (cenv.kindOf y = some .cell ∨ cenv.kindOf y = some .free) := fun k hk hk' => by
        have hk0 := hk
        rw [hsc] at hk
        obtain ⟨k', e, r⟩ := lookup_relS hk
        have no : ¬ (k' = .local ∨ k' = .cell) := fun hh => by
          rcases ok.own _ (PySem.mem_of_lookup e) hh with e' | e'
          · obtain ⟨p, hp, hpy⟩ := List.mem_map.mp e'
            have e3 := ok.ix p hp
            have : p.1 = y := hpy
            rw [this] at e3
            exact hne (List.mem_map.mpr ⟨p, hp, nodup_ix hN e3 e1⟩)
          · exact e' (List.mem_of_getElem? e1)
        rcases r with rfl | ⟨rfl, rfl⟩
        · rcases hk' with rfl | rfl | rfl
          · exact absurd (.inl rfl) no
          · exact absurd (.inr rfl) no
          · exact ⟨e, .inr hk0⟩
        · exact ⟨e, .inl hk0⟩
      have e3 : Vis cenv.scope y := e3
      rcases e3 with e3 | e3 | e3
      · exact key _ e3 (.inl rfl)
      · exact key _ e3 (.inr (.inl rfl))
      · exact key _ e3 (.inr (.inr rfl))
    obtain ⟨m, hn, hl⟩ := I.loc
    have hvis : Vis X.env.scope y := (ok.free _ (PySem.mem_of_lookup hfr.1) rfl).elim (fun k => .inr (.inl k)) (fun k => .inr (.inr k))
    obtain ⟨w, r, q⟩ := hl i y av e1 e2 hvis
    refine ⟨w, r, .inr ⟨hfr.2, ?_⟩⟩
    obtain ⟨c, h1, h2⟩ := look hfr.1
    rcases q with ⟨k, _⟩ | ⟨_, c', e', z⟩
    · have k : X.env.scope.names.lookup y = some .local := k
      rcases ok.free _ (PySem.mem_of_lookup hfr.1) rfl with k' | k' <;> rw [show X.env.scope.names.lookup y = _ from k'] at k <;> cases k
    · rw [h2] at e'; cases e'
      exact ⟨c, h1, z.keeps kp⟩
  · have e : cenv.cells.lookup y = some c := e
    rcases mem e with ⟨h1, _⟩ | ⟨_, z⟩
    · obtain ⟨w, z⟩ := I.cell y c h1
      exact ⟨w, z.keeps kp⟩
    · exact ⟨_, z⟩
  · show H cenv.locals = none
    rw [hL]; exact I.hok.fresh (Nat.le_refl _)
  · have e : cenv.cells.lookup y = some c := e
    rcases mem e with ⟨h1, _⟩ | ⟨h1, _⟩
    · exact I.freeC y c h1
    · exact I.hok.fresh (Nat.le_of_succ_le h1)
  · exact absurd (show p ∈ ([] : List (Addr × Obj)) ++ [] from hp) (by simp)
theorem app_ok {E : Value → Shared → Prop} {D : Addr} {xs : List V} {y : V} {v : Value} {Q : Value → Shared → Prop} (I : Inv X pins σ H s) (hD : H D = some (.lst xs)) (hz : xs.length < sizeLine) (r : RelV y v)
    (h : ∀ s', Inv X pins σ (upd H D (.lst (xs ++ [y]))) s' → Q .none s') : wpAny (model X.prog X.w) X.A (call (.builtin "list.append") [.ref D, v]) Q E s := by
  obtain ⟨hz', its, n, ri, e⟩ := I.hok D _ hD
  have hl := ri.length
  refine append_at (hsz := by rw [List.size_toArray]; omega) e fun h' sb ho' => ?_
  refine h { s with heap := h' } (I.write (t' := s.toks) (by rw [hD]; trivial) (.inl rfl) (fun b u hb q => (sb.2 b hb).trans q) ⟨_, ho'⟩ ⟨by rw [List.length_append]; exact hz, its ++ [v], n + 1, ri.append (.cons r .nil), ?_⟩)
  rw [ho']
  simp
def PTs (X : Cx) (ifs : List Expr) (t : TT) : Prop :=
  ∀ (pins : List (Addr × Obj)) (s : Shared) (σ : St) (H : Hp) (Q : Bool → Hp → Prop), Inv X pins σ H s → t σ H Q →
    wpAny (model X.prog X.w) X.A (forIn ifs true fun c r => if r = true then do let ok ← isTrue c X.env (eval c X.env); pure (ForInStep.yield ok) else pure (ForInStep.yield r)) (TP X pins σ Q) X.xe s
def tYes : TT := fun _ H Q => Q true H
theorem pts_nil : PTs X [] tYes := fun _ _ _ H _ I h => wpAny_tests_nil ⟨H, I, h⟩
theorem pts_one {c : Expr} {t : TT} (h : PT X c t) : PTs X [c] t := fun pins s σ H Q I hw => wpAny_tests_one (h pins s σ H Q I hw)
end
theorem thnF {α : Type} {t : Sem α} {Q Q' : α → Shared → Prop} {M : Model} {A : Around} {E : Value → Shared → Prop} {s : Shared} (h : wpAny M A t Q (fun _ _ => False) s) (hQ : ∀ a s, Q a s → Q' a s) : wpAny M A t Q' E s := wpAny_mono h hQ fun _ _ z => False.elim z
theorem compLoop_any {prog : Program} {w : World} {A : Around} {R : Result → Shared → Prop} {s : Shared} {elt target iter : Expr} {ifs : List Expr} {scope : Scope} {pos : Pos} {it acc : Value} {env : Env} (I : Nat → Shared → Prop)
    (turn : ∀ n s, I n s → wpAny (model prog w) A (pyNext it) (fun r s₁ => match r with
      | none => R (.ok .next) s₁
      | some v => wpAny (model prog w) A (letOwnedTupleGo target it v) (fun _ s₁' => wpAny (model prog w) A (assign target env v) (fun _ s₂ =>
          wpAny (model prog w) A (forIn ifs true fun c r => if r = true then do let ok ← isTrue c env (eval c env); pure (ForInStep.yield ok) else pure (ForInStep.yield r)) (fun ok s₃ =>
            if ok = true then wpAny (model prog w) A (eval elt env) (fun x s₄ =>
              wpAny (model prog w) A (call (.builtin "list.append") [acc, x]) (fun _ s₅ => ∃ m, m < n ∧ I m s₅) (notedBy (model prog w) A env fun e s' => R (.error e) s') s₄) (notedBy (model prog w) A env fun e s' => R (.error e) s') s₃
            else ∃ m, m < n ∧ I m s₃) (notedBy (model prog w) A env fun e s' => R (.error e) s') s₂) (notedBy (model prog w) A env fun e s' => R (.error e) s') s₁') (notedBy (model prog w) A env fun e s' => R (.error e) s') s₁) (notedBy (model prog w) A env fun e s' => R (.error e) s') s)
    (n : Nat) (h : I n s) :
    codeAny (model prog w) A (.compLoop (.ListComp elt [⟨target, iter, ifs, 0⟩] scope pos) 0 it acc env) R s := by
  refine codeAny_loop rfl I (fun n s hI => ?_) n h
  show wpAny _ A ((compTurn (.ListComp elt [⟨target, iter, ifs, 0⟩] scope pos) 0 it acc env).onRaise (fun x => do noteFrame x env; theTreesLotGoes x)) _ _ s
  refine wpAny_noted ?_
  rw [compTurn_list]
  refine wpAny_bind (wpAny_standAt (wpAny_bind (wpAny_mono (turn n s hI) (fun r s₁ h₁ => ?_) fun _ _ h' => h')))
  cases r with
  | none => exact wpAny_pure h₁
  | some v =>
    refine wpAny_bind (wpAny_mono h₁ (fun _ s₁' h₁' => ?_) fun _ _ h' => h')
    refine wpAny_bind (wpAny_mono h₁' (fun _ s₂ h₂ => wpAny_bind (wpAny_mono h₂ (fun ok s₃ h₃ => ?_) fun _ _ h' => h')) fun _ _ h' => h')
    cases ok with
    | false => exact wpAny_pure ⟨rfl, h₃⟩
    | true =>
      exact wpAny_bind (wpAny_bind (wpAny_mono h₃ (fun x s₄ h₄ => wpAny_bind (wpAny_mono h₄ (fun _ s₅ h₅ => wpAny_pure (wpAny_pure ⟨rfl, h₅⟩)) fun _ _ h' => h')) fun _ _ h' => h'))
section
variable {X : Cx}
def tLc (wi : TI) (g : TG) (tt : TT) (te : TE) (vs : List Nat) : TE := fun σ H Q => wi σ H fun J H1 => ∀ D, H1 D = none → ∃ W : Nat → Nat → Hp → Prop, (∃ m, W 0 m (upd H1 D (.lst []))) ∧ ∀ i m H, W i m H →
  (J.stop i H ∧ Q (.ref D) H) ∨ (J.go i H ∧ ∃ Nx : Hp → Prop, (∀ H', Nx H' → ∃ m', m' < m ∧ W (i + 1) m' H') ∧ ∀ x H', J.yld i H x H' → g x (wipe σ vs) H' fun σ2 H2 => wipe σ2 vs = wipe σ vs ∧ tt σ2 H2 fun b H3 =>
    if b = true then te σ2 H3 fun y H4 => ∃ acc, H4 D = some (.lst acc) ∧ acc.length < sizeLine ∧ Nx (upd H4 D (.lst (acc ++ [y]))) else Nx H3)
theorem lc_core {pins : List (Addr × Obj)} {s : Shared} {σ : St} {H : Hp} {Q : VK} {elt tg iter : Expr} {ifs : List Expr} {scope : Scope} {own : List (Str × Nat)} {pos pos' : Pos} {wi : TI} {g : TG} {tt : TT} {te : TE} {use : Option (Value → Sem Unit)} {Qf : Value → Shared → Prop}
    (hc : X.calm = true) (hN : X.N.Nodup) (I : Inv X pins σ H s) (hi : PI X tg iter wi) (ok : BlkOk X.N X.env.scope scope own)
    (hg : ∀ (s : Shared) (H : Hp) (C : Addr) (cl : List (Str × Addr)) (fp : List Addr), PG (X.blk s H scope (compEnvC scope cl C X.env) fp) tg g) (ht : ∀ (s : Shared) (H : Hp) (C : Addr) (cl : List (Str × Addr)) (fp : List Addr), PTs (X.blk s H scope (compEnvC scope cl C X.env) fp) ifs tt)
    (he : ∀ (s : Shared) (H : Hp) (C : Addr) (cl : List (Str × Addr)) (fp : List Addr), PE (X.blk s H scope (compEnvC scope cl C X.env) fp) elt te) (hs : ∀ x, foldedSetIterable iter X.env x = pure x)
    (h : tLc wi g tt te (own.map (·.2)) σ H Q)
    (hRR : ∀ D C s' m H', Inv X pins σ H' s' → Q (.ref D) H' → s'.heap.Ns C m → FpOk X pins H' C → compPost (model X.prog X.w) X.A X.xe use Qf (.ref D) C (.ok .next) s') :
    wpAny (model X.prog X.w) X.A (comprehension (.ListComp elt [⟨tg, iter, ifs, 0⟩] scope pos) scope X.env pos' (newList []) false (eval iter X.env) use) Qf X.xe s := by
  have hfree : ∀ y ∈ scope.names, y.2 = .free → ∃ c, X.env.cells.lookup y.1 = some c := fun y hy e => by
    rcases ok.free y hy e with k | k
    · exact I.ok.has _ (.inl k)
    · exact I.ok.has _ (.inr k)
  refine wpAny_comprehension_free (use := use) rfl hs (closure_ok hfree) ok.kind (fun y hy e => by rw [ok.uniq y hy, e])
    (thn (hi pins s σ H _ I h) fun xv s1 hx => thn hx fun itv s2 h2 => ?_)
  obtain ⟨it, fp, tn, J, H2, e, I2, T, st2, f2, q⟩ := h2
  subst e
  refine wpAny_newObj_type (newEnv_comp ?_) (by show 0 ≤ sizeLine; decide)
  generalize hD : s2.heap.objs.size = D
  have hDn : H2 D = none := I2.hok.fresh (Nat.le_of_eq hD)
  obtain ⟨W, ⟨m0, w0⟩, turn⟩ := q D hDn
  -- the new list
  generalize hs3 : ({ s2 with heap := s2.heap.push { cls := .type "list", data := .seq ([] : List Value).toArray } } : Shared) = s3
  have I3 : Inv X pins σ (upd H2 D (.lst [])) s3 := by
    rw [← hs3]
    refine I2.laid (t' := s2.toks) (fun b o e => Heap.get?_push_of_some _ e) (Nat.le_of_eq hD) ⟨Nat.zero_le _, [], 0, .nil, ?_⟩
    rw [← hD]
    exact Heap.get?_push_size _ rfl
  have h3 : s3.heap = s2.heap.push { cls := .type "list", data := .seq ([] : List Value).toArray } := by rw [← hs3]
  have sz : ∀ b ∈ fp, b < s2.heap.objs.size := fun b hb => by
    obtain ⟨o, e, _⟩ := T.obj _ _ st2 b hb
    exact Heap.lt_size e
  have f3 : ∀ b ∈ fp, FpOk X pins (upd H2 D (.lst [])) b ∧ b < s3.heap.objs.size := fun b hb => by
    have hlt := sz b hb
    refine ⟨⟨?_, (f2 b hb).2⟩, by rw [h3, Heap.size_push]; exact Nat.lt_succ_of_lt hlt⟩
    rw [upd_ne (by rw [← hD]; exact Nat.ne_of_lt hlt)]
    exact (f2 b hb).1
  have st3 : tn 0 s3.heap := T.keep _ _ _ st2 fun b _ o e => by rw [h3]; exact Heap.get?_push_of_some _ e
  have I4 := block_start I3 ok hN f3
  have pg := hg s3 (upd H2 D (.lst [])) s3.heap.objs.size (cellsFrom (s3.heap.objs.size + 1) scope.names (cloFrom X.env.cells scope.names [])) fp
  have pt := ht s3 (upd H2 D (.lst [])) s3.heap.objs.size (cellsFrom (s3.heap.objs.size + 1) scope.names (cloFrom X.env.cells scope.names [])) fp
  have pe := he s3 (upd H2 D (.lst [])) s3.heap.objs.size (cellsFrom (s3.heap.objs.size + 1) scope.names (cloFrom X.env.cells scope.names [])) fp
  show codeAny _ _ (.compStart (.ListComp elt [⟨tg, iter, ifs, 0⟩] scope pos) 0 (.ref it) (.ref D) (compEnvC scope (cellsFrom (s3.heap.objs.size + 1) scope.names (cloFrom X.env.cells scope.names [])) s3.heap.objs.size X.env)) (compPost (model X.prog X.w) X.A X.xe use Qf (.ref D) s3.heap.objs.size) { s3 with heap := pushCells (s3.heap.push { cls := .type "dict", data := .dict #[] }) scope.names }
  have nfp : ∀ b ∈ fp, (upd H2 D (.lst [])) b = none := fun b hb => (f3 b hb).1.1
  generalize hce : compEnvC scope (cellsFrom (s3.heap.objs.size + 1) scope.names (cloFrom X.env.cells scope.names [])) s3.heap.objs.size X.env = ce at I4 pg pt pe ⊢
  have cL : ce.locals = s3.heap.objs.size := by subst hce; rfl
  generalize hH3 : upd H2 D (.lst []) = H3 at I3 I4 pg pt pe w0 nfp f3
  generalize hs4 : ({ s3 with heap := pushCells (s3.heap.push { cls := .type "dict", data := .dict #[] }) scope.names } : Shared) = s4 at I4 ⊢
  have st4 : tn 0 s4.heap := T.keep _ _ _ st3 fun b _ o e => by rw [← hs4]; exact pushCells_keeps _ _ _ _ (Heap.get?_push_of_some _ e)
  have stat : ∀ {σ' : St} {H' : Hp} {s' : Shared}, Inv (X.blk s3 H3 scope ce fp) [] σ' H' s' → (∀ b ∈ fp, H' b = none) → ∀ b ∈ fp, FpOk (X.blk s3 H3 scope ce fp) [] H' b := fun {σ' H' s'} I' hn b hb =>
    ⟨hn b hb, (I'.ok.exf b hb).1, I'.ok.exfs b hb, .inl hb, fun x c e => (I'.ok.exf b hb).2 x c e, fun p hp => absurd (show p ∈ ([] : List (Addr × Obj)) ++ [] from hp) (by simp)⟩
  have loop : codeAny (model X.prog X.w) X.A (.compLoop (.ListComp elt [⟨tg, iter, ifs, 0⟩] scope pos) 0 (.ref it) (.ref D) ce) (compPost (model X.prog X.w) X.A X.xe use Qf (.ref D) s3.heap.objs.size) s4 := by
    refine compLoop_any (fun n s' => ∃ i H', Inv (X.blk s3 H3 scope ce fp) [] (wipe σ (own.map (·.2))) H' s' ∧ tn i s'.heap ∧ (∀ b ∈ fp, H' b = none) ∧ W i n H') ?_ m0 ⟨0, H3, I4, st4, nfp, w0⟩
    rintro n s5 ⟨i, H5, I5, st5, n5, w5⟩
    rcases turn i n H5 w5 with ⟨stop, qq⟩ | ⟨go, Nx, hNx, step⟩
    · have td := T.done (X.blk s3 H3 scope ce fp) rfl rfl rfl hc i [] s5 _ H5 (fun _ _ => False) I5 (stat I5 n5) st5 stop
      refine thnF td fun r s6 ⟨hr, I6⟩ => ?_
      subst hr
      -- back in the def's context
      have I7 : Inv X pins σ H5 s6 := I3.call' (ch := fp) I6.os I6.base I6.hok I6.bare fun b hb => ⟨(f3 b hb).1.2.2.2.1, (f3 b hb).1.2.1, (f3 b hb).1.2.2.2.2.1, (f3 b hb).1.2.2.2.2.2⟩
      have nC : H5 s3.heap.objs.size = none := by
        have z : H5 ce.locals = none := I6.free
        rw [cL] at z
        exact z
      obtain ⟨m, hn, _⟩ := I6.loc
      have hn : s6.heap.Ns ce.locals m := hn
      rw [cL] at hn
      exact hRR D s3.heap.objs.size s6 m H5 I7 qq hn (I3.fpOk (Nat.le_refl _) nC)
    · have ti := T.item (X.blk s3 H3 scope ce fp) rfl rfl rfl hc i [] s5 _ H5 (fun _ _ => False) I5 (stat I5 n5) st5 go
      refine thnF ti fun r s6 ⟨u, hr, h6⟩ => ?_
      subst hr
      refine thnF h6 fun _ s7 ⟨x, H7, I7, r7, y7, st7, n7⟩ => ?_
      have I7' := I7.pinned (stat I7 n7) (T.obj _ _ st7)
      refine thnF (pg _ s7 _ H7 x u _ I7' r7 (step x H7 y7)) fun _ s8 ⟨σ8, H8, I8, hw8, q8⟩ => ?_
      refine thnF (pt _ s8 σ8 H8 _ I8 q8) fun b s9 ⟨H9, I9, q9⟩ => ?_
      -- the turn's end
      have fin : ∀ {s' : Shared} {H' : Hp}, Inv (X.blk s3 H3 scope ce fp) ([] ++ pinsAt fp s7.heap) σ8 H' s' → Nx H' → ∃ m, m < n ∧ ∃ i H', Inv (X.blk s3 H3 scope ce fp) [] (wipe σ (own.map (·.2))) H' s' ∧ tn i s'.heap ∧ (∀ b ∈ fp, H' b = none) ∧ W i m H' := fun {s' H'} I' nx => by
        obtain ⟨m', hm, w'⟩ := hNx H' nx
        have pin' : ∀ b ∈ fp, ∀ o, s7.heap.get? b = some o → s'.heap.get? b = some o ∧ H' b = none := fun b hb o e =>
          let z := I'.pin (b, o) (List.mem_append_right _ (List.mem_append_right _ (mem_pinsAt hb e)))
          ⟨z.1, z.2.1⟩
        have hl : (wipe σ (own.map (·.2))).length = σ8.length := by rw [← hw8, wipe_length]
        refine ⟨m', hm, i + 1, H', (I'.unpinned (pins := [])).weak hl (fun j v e => ?_), T.keep _ _ _ st7 fun b hb o e => (pin' b hb o e).1, fun b hb => ?_, w'⟩
        · rw [← hw8] at e
          exact (wipe_some e).1
        · obtain ⟨o, e, _⟩ := T.obj _ _ st7 b hb
          exact (pin' b hb o e).2
      cases b with
      | false =>
        simp only [Bool.false_eq_true, if_false] at q9 ⊢
        exact fin I9 q9
      | true =>
        simp only [if_true] at q9 ⊢
        refine thnF (pe _ s9 σ8 H9 _ I9 q9) fun z s10 ⟨yv, H10, I10, r10, acc, hD10, hz10, nx⟩ => ?_
        exact app_ok (X := X.blk s3 H3 scope ce fp) I10 hD10 hz10 r10 fun s11 I11 => fin I11 nx
  exact codeAny_compStart_list loop (T.self X.A 0 _ _ _ st4 loop)
theorem pe_lc {elt tg iter : Expr} {ifs : List Expr} {scope : Scope} {own : List (Str × Nat)} {pos : Pos} {wi : TI} {g : TG} {tt : TT} {te : TE} (hc : X.calm = true) (hN : X.N.Nodup) (hi : PI X tg iter wi) (ok : BlkOk X.N X.env.scope scope own)
    (hg : ∀ (s : Shared) (H : Hp) (C : Addr) (cl : List (Str × Addr)) (fp : List Addr), PG (X.blk s H scope (compEnvC scope cl C X.env) fp) tg g) (ht : ∀ (s : Shared) (H : Hp) (C : Addr) (cl : List (Str × Addr)) (fp : List Addr), PTs (X.blk s H scope (compEnvC scope cl C X.env) fp) ifs tt)
    (he : ∀ (s : Shared) (H : Hp) (C : Addr) (cl : List (Str × Addr)) (fp : List Addr), PE (X.blk s H scope (compEnvC scope cl C X.env) fp) elt te) (hs : ∀ x, foldedSetIterable iter X.env x = pure x := by intro _; rfl) :
    PE X (.ListComp elt [⟨tg, iter, ifs, 0⟩] scope pos) (tLc wi g tt te (own.map (·.2))) := by
  intro pins s σ H Q I h
  rw [eval_ListComp]
  refine lc_core hc hN I hi ok hg ht he hs h fun D C s' m H' I' q hn f => ⟨m, hn, fun h'' sb => ?_⟩
  obtain ⟨f0, f1, f2, f3, f4, f5⟩ := f
  exact ⟨.ref D, H', I'.turned (t' := s'.toks) (fun b o hb e => (sb.2 b hb).trans e) f0 f1 f3 f4 f5, rfl, q⟩
theorem ps_setLc {i : Nat} {y : Str} {py : Pos} {elt tg iter : Expr} {ifs : List Expr} {scope : Scope} {own : List (Str × Nat)} {pos spos : Pos} {wi : TI} {g : TG} {tt : TT} {te : TE} (hc : X.calm = true) (hN : X.N.Nodup) (hy : X.N[i]? = some y) (hyl : X.env.scope.names.lookup y = some .local)
    (hsw : swapsWith (.ListComp elt [⟨tg, iter, ifs, 0⟩] scope pos) (some (.Name y py)) spos.line X.env = pure true) (hi : PI X tg iter wi) (ok : BlkOk X.N X.env.scope scope own)
    (hg : ∀ (s : Shared) (H : Hp) (C : Addr) (cl : List (Str × Addr)) (fp : List Addr), PG (X.blk s H scope (compEnvC scope cl C X.env) fp) tg g) (ht : ∀ (s : Shared) (H : Hp) (C : Addr) (cl : List (Str × Addr)) (fp : List Addr), PTs (X.blk s H scope (compEnvC scope cl C X.env) fp) ifs tt)
    (he : ∀ (s : Shared) (H : Hp) (C : Addr) (cl : List (Str × Addr)) (fp : List Addr), PE (X.blk s H scope (compEnvC scope cl C X.env) fp) elt te) (hs : ∀ x, foldedSetIterable iter X.env x = pure x := by intro _; rfl) :
    PS X (.Assign [.Name y py] (.ListComp elt [⟨tg, iter, ifs, 0⟩] scope pos) spos) (tAsg (tLc wi g tt te (own.map (·.2))) (gName i)) := by
  intro pins s σ H D I h
  rw [exec_Assign_Name_used _ _ _ _ hsw]
  refine wpAny_bind (wpAny_standAt (wpAny_bind ?_))
  show wpAny _ X.A (do let _ ← comprehension (.ListComp elt [⟨tg, iter, ifs, 0⟩] scope pos) scope X.env (firstIterPos [⟨tg, iter, ifs, 0⟩] pos) (newList []) false (eval iter X.env) (some (assign (.Name y py) X.env))) _ _ s
  have h : tLc wi g tt te (own.map (·.2)) σ H (fun x H1 => gName i x σ H1 D.nx) := h
  refine wpAny_bind (thn (lc_core (Qf := fun _ s' => SP X pins D .next s') hc hN I hi ok hg ht he hs h fun L C s' m H' I' q hn f => ?_) fun _ s' hq => wpAny_pure (wpAny_pure hq))
  show wpAny _ _ (assign (.Name y py) X.env (.ref L)) _ _ _
  refine wpAny_assign_Name (store_ok2 (v := V.ref L) I' hN hy (.inl hyl) rfl (fun s2 I2 ⟨a, sb, ha⟩ => ?_) (.inr hyl))
  obtain ⟨f0, f1, f2, f3, f4, f5⟩ := f
  have haC : C ≠ a := by
    rcases ha with z | z
    · rw [z]; exact f1
    · exact fun e => f4 y a z e.symm
  refine ⟨m, hn.sameBut sb haC, fun h3 sb3 => ?_⟩
  exact ⟨_, H', I2.turned (t' := s2.toks) (fun b o hb e => (sb3.2 b hb).trans e) f0 f1 f3 f4 f5, q⟩
theorem sw_true {elt : Expr} {gs : List Comprehension} {scope : Scope} {pos py : Pos} {y : Str} {l : Nat} {env : Env} (hk : env.scope.kind = .function) (hy : env.scope.names.lookup y = some .local) (hl : (py.line == pos.line) = true)
    (ha : (scope.names.any fun (n, k) => n == y && (k == .local || k == .cell)) = false) : swapsWith (.ListComp elt gs scope pos) (some (.Name y py)) l env = pure true := by
  have ky : env.kindOf y = some .local := hy
  have hb : env.blockKind = .function := by unfold Env.blockKind; rw [hk]; rfl
  unfold swapsWith
  simp only [hb, ky, ha, Expr.pos, hl]
  rfl
end
theorem lc_range {lo : Int} {n : Nat} {g : TG} {tt : TT} {te : TE} {vs : List Nat} {σ : St} {H1 : Hp} {D : Addr} {Qd : Hp → Prop} (Pv : Nat → Hp → Prop) (h0 : Pv 0 (upd H1 D (.lst [])))
    (hs : ∀ i H, i < n → Pv i H → g (.int (lo + i)) (wipe σ vs) H fun σ2 H2 => wipe σ2 vs = wipe σ vs ∧ tt σ2 H2 fun b H3 =>
      if b = true then te σ2 H3 fun y H4 => ∃ acc, H4 D = some (.lst acc) ∧ acc.length < sizeLine ∧ Pv (i + 1) (upd H4 D (.lst (acc ++ [y]))) else Pv (i + 1) H3) (hd : ∀ H, Pv n H → Qd H) :
    ∃ W : Nat → Nat → Hp → Prop, (∃ m, W 0 m (upd H1 D (.lst []))) ∧ ∀ i m H, W i m H →
      ((Itr lo n).stop i H ∧ Qd H) ∨ ((Itr lo n).go i H ∧ ∃ Nx : Hp → Prop, (∀ H', Nx H' → ∃ m', m' < m ∧ W (i + 1) m' H') ∧ ∀ x H', (Itr lo n).yld i H x H' → g x (wipe σ vs) H' fun σ2 H2 => wipe σ2 vs = wipe σ vs ∧ tt σ2 H2 fun b H3 =>
        if b = true then te σ2 H3 fun y H4 => ∃ acc, H4 D = some (.lst acc) ∧ acc.length < sizeLine ∧ Nx (upd H4 D (.lst (acc ++ [y]))) else Nx H3) := by
  refine ⟨fun i m H => m = n - i ∧ i ≤ n ∧ Pv i H, ⟨n, by simp, Nat.zero_le _, h0⟩, ?_⟩
  rintro i m H ⟨rfl, hi, p⟩
  by_cases hlt : i < n
  · refine .inr ⟨hlt, Pv (i + 1), fun H' p' => ⟨n - (i + 1), by omega, rfl, hlt, p'⟩, fun x H' y => ?_⟩
    obtain ⟨e, y⟩ := y
    subst e y
    exact hs i _ hlt p
  · have e : i = n := by omega
    subst e
    exact .inl ⟨Nat.le_refl _, hd H p⟩
theorem lc_list {K : PySem.W.Frag} {a : Addr} {xs : List V} {g : TG} {tt : TT} {te : TE} {vs : List Nat} {σ : St} {H1 : Hp} {D : Addr} {Qd : Hp → Prop} (Pv : Nat → Hp → Prop) (h0 : Pv 0 (upd H1 D (.lst []))) (hl : ∀ i H, i ≤ xs.length → Pv i H → SqL K H a xs)
    (hs : ∀ i x H, xs[i]? = some x → Pv i H → g x (wipe σ vs) H fun σ2 H2 => wipe σ2 vs = wipe σ vs ∧ tt σ2 H2 fun b H3 =>
      if b = true then te σ2 H3 fun y H4 => ∃ acc, H4 D = some (.lst acc) ∧ acc.length < sizeLine ∧ Pv (i + 1) (upd H4 D (.lst (acc ++ [y]))) else Pv (i + 1) H3) (hd : ∀ H, Pv xs.length H → Qd H) :
    ∃ W : Nat → Nat → Hp → Prop, (∃ m, W 0 m (upd H1 D (.lst []))) ∧ ∀ i m H, W i m H →
      ((Itl K a).stop i H ∧ Qd H) ∨ ((Itl K a).go i H ∧ ∃ Nx : Hp → Prop, (∀ H', Nx H' → ∃ m', m' < m ∧ W (i + 1) m' H') ∧ ∀ x H', (Itl K a).yld i H x H' → g x (wipe σ vs) H' fun σ2 H2 => wipe σ2 vs = wipe σ vs ∧ tt σ2 H2 fun b H3 =>
        if b = true then te σ2 H3 fun y H4 => ∃ acc, H4 D = some (.lst acc) ∧ acc.length < sizeLine ∧ Nx (upd H4 D (.lst (acc ++ [y]))) else Nx H3) := by
  refine ⟨fun i m H => m = xs.length - i ∧ i ≤ xs.length ∧ Pv i H, ⟨xs.length, by simp, Nat.zero_le _, h0⟩, ?_⟩
  rintro i m H ⟨rfl, hi, p⟩
  have q := hl i H hi p
  by_cases hlt : i < xs.length
  · refine .inr ⟨⟨xs, xs[i], q, by simp [hlt]⟩, Pv (i + 1), fun H' p' => ⟨xs.length - (i + 1), by omega, rfl, hlt, p'⟩, fun x H' y => ?_⟩
    obtain ⟨e, y⟩ := y
    subst e
    exact hs i x _ (y xs q) p
  · have e : i = xs.length := by omega
    subst e
    exact .inl ⟨⟨xs, q, Nat.le_refl _⟩, hd H p⟩
def blkC (N : List Str) (sc scope : Scope) (own : List (Str × Nat)) : Bool :=
  (match scope.kind with | .function => true | _ => false) && (scope.names.all fun y => decide (scope.names.lookup y.1 = some y.2)) && (own.all fun p => decide (N[p.2]? = some p.1)) &&
    (scope.names.all fun y => match y.2 with
      | .free => (match sc.names.lookup y.1 with | some .cell => true | some .free => true | _ => false)
      | .local => decide (y.1 ∈ own.map (·.1)) || decide (y.1 ∉ N)
      | .cell => decide (y.1 ∈ own.map (·.1)) || decide (y.1 ∉ N)
      | _ => true)
theorem blkOk_by {N : List Str} {sc scope : Scope} {own : List (Str × Nat)} (h : blkC N sc scope own = true) : BlkOk N sc scope own := by
  unfold blkC at h
  simp only [Bool.and_eq_true, List.all_eq_true, decide_eq_true_eq] at h
  obtain ⟨⟨⟨h1, h2⟩, h3⟩, h4⟩ := h
  refine ⟨?_, h2, h3, fun y hy e => ?_, fun y hy e => ?_⟩
  · split at h1
    · assumption
    · cases h1
  · have q := h4 y hy
    simp only [e] at q
    split at q <;> first | exact .inl (by assumption) | exact .inr (by assumption) | cases q
  · have q := h4 y hy
    rcases e with e | e <;> (simp only [e, Bool.or_eq_true, decide_eq_true_eq] at q; exact q)
end L2
namespace L2
open PySem PySem.Spec PyProof.Rows
theorem boot_reversed5 : bootBuiltins "reversed" = some (.type "reversed") := by decide +kernel
section
variable {X : Cx} {pins : List (Addr × Obj)} {σ : St} {H : Hp} {s : Shared} {h' : Heap}
theorem Inv.turnedL {t' : Nat} {ch : List Addr} (I : Inv X pins σ H s) (k : ∀ b o, b ∉ ch → s.heap.get? b = some o → h'.get? b = some o) (hf : ∀ b ∈ ch, FpOk X pins H b) : Inv X pins σ H { s with heap := h', toks := t' } := by
  have nit : ∀ b u, H b = some u → b ∉ ch := fun b u e z => by
    have q := (hf b z).1
    rw [q] at e; cases e
  refine I.step (g' := s.gens) (d' := s.drawn) (ch := ch) (fun b hb => ⟨(hf b hb).2.2.2.1, (hf b hb).2.1, (hf b hb).2.2.2.2.1, (hf b hb).2.2.2.2.2⟩) (fun b o _ _ hc e _ => k b o hc e) (fun b o _ _ hc e _ => ⟨o.slots, k b o hc e⟩)
    (fun _ _ _ _ n => n) (fun b o hc e => ⟨o, k b o hc e⟩) (fun _ _ e => e) (fun _ _ _ e => e) (fun b ps e => ⟨#[], by rw [e]; simp⟩) (fun m hm => ?_) (fun b u e => ?_) I.bare
  · obtain ⟨o, es, ep, ho, r⟩ := hm
    exact ⟨o, es, ep, k _ o (fun z => (hf _ z).2.1 rfl) ho, r⟩
  · refine (I.hok b u e).stay (fun c v hc q => k c v ?_ q) (fun _ q => q) fun _ _ q => q
    rcases hc with z | z
    · rw [z]; exact nit b u e
    · exact nit c _ z
theorem Inv.turnedNew {t' : Nat} {ch : List Addr} {T : Addr} {ob : HO} (I : Inv X pins σ H s) (k : ∀ b o, b ∉ ch → s.heap.get? b = some o → h'.get? b = some o) (hf : ∀ b ∈ ch, FpOk X pins H b) (hT : s.heap.objs.size ≤ T)
    (new : ObjOk X.prog X.w (upd H T ob) h' T ob) : Inv X pins σ (upd H T ob) { s with heap := h', toks := t' } := by
  have hn : H T = none := I.hok.fresh hT
  have nit : ∀ b u, H b = some u → b ∉ ch := fun b u e z => by
    have q := (hf b z).1
    rw [q] at e; cases e
  refine I.step (g' := s.gens) (d' := s.drawn) (ch := ch) (fun b hb => ⟨(hf b hb).2.2.2.1, (hf b hb).2.1, (hf b hb).2.2.2.2.1, (hf b hb).2.2.2.2.2⟩) (fun b o _ _ hc e _ => k b o hc e) (fun b o _ _ hc e _ => ⟨o.slots, k b o hc e⟩)
    (fun b o _ e n => ?_) (fun b o hc e => ⟨o, k b o hc e⟩) (fun b xs e => ?_) (fun b o u e => ?_) (fun b ps e => ⟨#[], ?_⟩) (fun m hm => ?_) (fun b u e => ?_) I.bare
  · rw [upd_ne (Nat.ne_of_lt (Nat.lt_of_lt_of_le (Heap.lt_size e) hT))]; exact n
  · rw [upd_ne (ne_of_none e hn)]; exact e
  · rw [upd_ne (ne_of_none e hn)]; exact e
  · rw [upd_ne (ne_of_none e hn), e]; simp
  · obtain ⟨o, es, ep, ho, r⟩ := hm
    exact ⟨o, es, ep, k _ o (fun z => (hf _ z).2.1 rfl) ho, r⟩
  · by_cases hb : b = T
    · subst hb
      rw [upd_same] at e
      cases e
      exact new
    · rw [upd_ne hb] at e
      refine (I.hok b u e).stay (fun c v hc q => k c v ?_ q) (fun c q => by rw [upd_ne (ne_of_none q hn)]; exact q) fun c xs q => by rw [upd_ne (ne_of_none q hn)]; exact q
      rcases hc with z | z
      · rw [z]; exact nit b u e
      · exact nit c _ z
end
section
variable {X : Cx}
theorem pi_one {tg : Expr} {pins : List (Addr × Obj)} {σ : St} {H : Hp} {s : Shared} {R : It → Hp → Prop} {J : It} {tn : Nat → Heap → Prop} {tk : Nat} (I : Inv X pins σ H s) (o : Obj)
    (T : Turn X.prog X.w X.K tg J [s.heap.objs.size] s.heap.objs.size tn) (st : tn 0 (s.heap.push o)) (q : R J H) : PIE X pins σ tg R (.ref s.heap.objs.size) { s with heap := s.heap.push o, toks := tk } := by
  refine ⟨s.heap.objs.size, [s.heap.objs.size], tn, J, H, rfl, I.kept fun b ob e => Heap.get?_push_of_some _ e, T, st, fun b hb => ?_, q⟩
  have e : b = s.heap.objs.size := by simpa using hb
  subst e
  exact I.fpOk (Nat.le_refl _) (I.hok.fresh (Nat.le_refl _))
end
def Itv (K : PySem.W.Frag) (a : Addr) (n : Nat) : It :=
  ⟨fun i H => i < n ∧ ∃ (xs : List V) (x : V), SqL K H a xs ∧ xs[n - 1 - i]? = some x, fun i H x H' => H' = H ∧ ∀ xs, SqL K H a xs → xs[n - 1 - i]? = some x, fun i _ => n ≤ i⟩
theorem turn_rev {P : Program} {w : World} {K : PySem.W.Frag} {tg : Expr} (a it : Addr) (n : Nat) : Turn P w K tg (Itv K a n) [it] it (fun i h => i ≤ n ∧ h.IsRevIter it a ((n : Int) - 1 - (i : Nat))) where
  mem := by simp
  obj := fun i h st b hb => by
    have e : b = it := by simpa using hb
    subst e
    obtain ⟨_, o, e, c, d⟩ := st
    exact ⟨o, e, fun v z => by rw [d] at z; cases z⟩
  keep := fun i h h' st k => ⟨st.1, st.2.at fun o e => k it (by simp) o e⟩
  item := by
    intro X hP hw hK hc i pins s σ H E I hf st hg
    subst hP hw hK
    obtain ⟨hin, xs, x, hq, hx⟩ := hg
    obtain ⟨its, rv, p, hz⟩ := I.list hq
    obtain ⟨u, hu, ru⟩ := rv.get hx
    obtain ⟨f0, f1, f2, f3, f4, f5⟩ := hf it (by simp)
    obtain ⟨_, hit⟩ := st
    have e1 : (n : Int) - 1 - ((i : Nat) : Int) = ((n - 1 - i : Nat) : Int) := by omega
    rw [e1] at hit
    refine wpAny_pyNext_rev_item hit p.isList (x := u) (by simpa using hu) fun h' st' sb => ?_
    have e2 : ((n - 1 - i : Nat) : Int) - 1 = (n : Int) - 1 - ((i + 1 : Nat) : Int) := by omega
    rw [e2] at st'
    have I1 : Inv X pins σ H { s with heap := h' } := I.turned (t' := s.toks) (fun b o hb e => (sb.2 b hb).trans e) f0 f1 f3 f4 f5
    obtain ⟨o, e, c, d⟩ := id st'
    exact ⟨u, rfl, go_of (s := { s with heap := h' }) e c d (by decide) ⟨x, H, I1, ru, ⟨rfl, fun ys hy => by rw [I.list_inj hy hq]; exact hx⟩, ⟨hin, st'⟩, fun b hb => (hf b hb).1⟩⟩
  done := by
    intro X hP hw hK hc i pins s σ H E I hf st hg
    subst hP hw hK
    obtain ⟨f0, f1, f2, f3, f4, f5⟩ := hf it (by simp)
    obtain ⟨hin, hit⟩ := st
    have hge : n ≤ i := hg
    have e1 : (n : Int) - 1 - ((i : Nat) : Int) = -1 := by omega
    rw [e1] at hit
    exact wpAny_pyNext_rev_end (I.ok.hd hc) hit fun h' eb => ⟨rfl, I.turned (t' := s.toks) (fun b o hb e => eb b o hb e) f0 f1 f3 f4 f5⟩
  self := fun A i s Q E st h => wpAny_pyIter_revIter st.2 h
def iRev (K : PySem.W.Frag) (ta : TA) : TI := fun σ H R => ta σ H fun vs H1 => ∃ (a : Addr) (xs : List V), vs = [.ref a] ∧ SqL K H1 a xs ∧ R (Itv K a xs.length) H1
section
variable {X : Cx} {tg : Expr}
theorem pi_reversed {e : Expr} {ta : TA} {p pos : Pos} (hg : Gl X "reversed") (hm : X.mg "reversed" = none) (ha : PA X [e] ta) (hs : starEach [e] X.env = [(false, eval e X.env)] := by rfl) : PI X tg (.Call (.Name "reversed" p) [e] [] pos) (iRev X.K ta) := by
  intro pins s σ H R I h
  refine Call_ (ld_blt I hg hm boot_reversed5 (PyProof.Rows.callWith_type1 (thn (ha pos pins s σ H _ I h) fun us s1 ⟨vs, H1, I1, r1, q1⟩ => ?_) hs rfl))
  obtain ⟨a, xs, e, hq, q⟩ := q1
  subst e
  cases r1 with
  | cons r rr =>
    cases rr
    cases r
    obtain ⟨its, rv, p', hz⟩ := I1.list hq
    have hl := rv.length
    have e1 : ((its.toArray.size : Nat) : Int) - 1 = (xs.length : Int) - 1 - ((0 : Nat) : Int) := by simp only [List.size_toArray]; omega
    refine call_reversed_list p'.isList (wpAny_pyIter_revIter (l := a) (i := ((its.toArray.size : Nat) : Int) - 1) ⟨_, Heap.get?_push_size _ rfl, rfl, rfl⟩ ?_)
    refine pi_one (tk := s1.toks) I1 _ (turn_rev a _ xs.length) ⟨Nat.zero_le _, ?_⟩ q
    rw [← e1]
    exact ⟨_, Heap.get?_push_size _ rfl, rfl, rfl⟩
end
def Ite (K : PySem.W.Frag) (a : Addr) : It :=
  ⟨fun i H => ∃ (xs : List V) (x : V), SqL K H a xs ∧ xs[i]? = some x, fun i H v H' => ∃ T x, v = .ref T ∧ H T = none ∧ H' = upd H T (.tup [.int (i : Nat), x]) ∧ ∀ xs, SqL K H a xs → xs[i]? = some x, fun i H => ∃ xs : List V, SqL K H a xs ∧ xs.length ≤ i⟩
theorem turn_enum {P : Program} {w : World} {K : PySem.W.Frag} {elts : List Expr} {kk : Nat} {tpos : Pos} (a e it : Addr) :
    Turn P w K (.Tuple elts kk tpos) (Ite K a) [e, it] e (fun i h => (∃ old, IsEnum h e it ((i : Nat) : Int) old) ∧ h.IsListIter it a i ∧ e ≠ it) where
  mem := by simp
  obj := fun i h st b hb => by
    obtain ⟨⟨old, he⟩, ⟨o, ho, hc, hd⟩, _⟩ := st
    have e' : b = e ∨ b = it := by simpa using hb
    rcases e' with z | z
    · rw [z]; exact ⟨_, he, fun v q => nomatch q⟩
    · rw [z]; exact ⟨o, ho, fun v q => by rw [hd] at q; cases q⟩
  keep := fun i h h' st k => let ⟨⟨old, he⟩, hi, hne⟩ := st; ⟨⟨old, k e (by simp) _ he⟩, hi.at fun o q => k it (by simp) o q, hne⟩
  item := by
    intro X hP hw hK hc i pins s σ H E I hf st hg
    subst hP hw hK
    obtain ⟨⟨old, he⟩, hit, hne⟩ := st
    obtain ⟨xs, x, hq, hx⟩ := hg
    obtain ⟨its, rv, p, hz⟩ := I.list hq
    obtain ⟨u, hu, ru⟩ := rv.get hx
    have hel : e < s.heap.objs.size := Heap.lt_size he
    have hil : it < s.heap.objs.size := by obtain ⟨_, q, _⟩ := hit; exact Heap.lt_size q
    refine wpAny_pyNext_enum_item he hit p.isList (x := u) (by simpa using hu) hne fun h' ho hit' hT hsz hk => ?_
    refine ⟨_, rfl, wpAny_letOwnedTupleGo_enum (s := { s with heap := h', toks := s.toks + 1 }) ho fun h'' he' sb => ?_⟩
    have hT2 : h''.get? s.heap.objs.size = some { cls := .type "tuple", data := .seq #[.int i s.toks, u] } := (sb.2 _ (Nat.ne_of_gt hel)).trans hT
    have new : ObjOk X.prog X.w (upd H s.heap.objs.size (.tup [.int (i : Nat), x])) h'' s.heap.objs.size (.tup [.int (i : Nat), x]) :=
      ⟨by show 2 ≤ sizeLine; decide, [.int i s.toks, u], .cons ⟨_, rfl⟩ (.cons ru .nil), ⟨_, hT2, rfl, _, rfl⟩⟩
    have I1 : Inv X pins σ (upd H s.heap.objs.size (.tup [.int (i : Nat), x])) { s with heap := h'', toks := s.toks + 1 } :=
      I.turnedNew (ch := [e, it]) (fun b ob hb q => (sb.2 b (fun z => hb (by simp [z]))).trans (hk b ob (fun z => hb (by simp [z])) (fun z => hb (by simp [z])) q)) hf (Nat.le_refl _) new
    refine ⟨.ref s.heap.objs.size, _, I1, rfl, ⟨_, x, rfl, I.hok.fresh (Nat.le_refl _), rfl, fun ys hy => by rw [I.list_inj hy hq]; exact hx⟩, ⟨⟨u, ?_⟩, hit'.at fun o q => (sb.2 it (Ne.symm hne)).trans q, hne⟩, fun b hb => ?_⟩
    · have e1 : ((i + 1 : Nat) : Int) = (i : Int) + 1 := by omega
      rw [e1]; exact he'
    · have hb' : b < s.heap.objs.size := by
        have e' : b = e ∨ b = it := by simpa using hb
        rcases e' with z | z
        · rw [z]; exact hel
        · rw [z]; exact hil
      rw [upd_ne (Nat.ne_of_lt hb')]
      exact (hf b hb).1
  done := by
    intro X hP hw hK hc i pins s σ H E I hf st hg
    subst hP hw hK
    obtain ⟨⟨old, he⟩, hit, hne⟩ := st
    obtain ⟨xs, hq, hx⟩ := hg
    obtain ⟨its, rv, p, hz⟩ := I.list hq
    obtain ⟨f0, f1, f2, f3, f4, f5⟩ := hf it (by simp)
    have hl := rv.length
    exact wpAny_pyNext_enum_end (I.ok.hd hc) he hit p.isList (by simp; omega) fun h' eb => ⟨rfl, I.turned (t' := s.toks) (fun b o hb q => eb b o hb q) f0 f1 f3 f4 f5⟩
  self := fun A i s Q E st h => let ⟨⟨_, he⟩, _⟩ := st; wpAny_pyIter_enum he h
def iEnum (K : PySem.W.Frag) (ta : TA) : TI := fun σ H R => ta σ H fun vs H1 => ∃ a xs, vs = [.ref a] ∧ SqL K H1 a xs ∧ R (Ite K a) H1
theorem pi_enum {X : Cx} {e : Expr} {ta : TA} {p pos tpos : Pos} {elts : List Expr} {kk : Nat} (hg : Gl X "enumerate") (hm : X.mg "enumerate" = none) (ha : PA X [e] ta) (hs : starEach [e] X.env = [(false, eval e X.env)] := by rfl) :
    PI X (.Tuple elts kk tpos) (.Call (.Name "enumerate" p) [e] [] pos) (iEnum X.K ta) := by
  intro pins s σ H R I h
  refine Call_ (ld_blt I hg hm boot_enumerate (PyProof.Rows.callWith_type1 (thn (ha pos pins s σ H _ I h) fun us s1 ⟨vs, H1, I1, r1, q1⟩ => ?_) hs rfl))
  obtain ⟨a, xs, ex, hq, q⟩ := q1
  subst ex
  cases r1 with
  | cons r rr =>
    cases rr
    cases r
    obtain ⟨its, rv, p', hz⟩ := I1.list hq
    refine call_enumerate_list p'.isList fun h' he hit hsz hk => wpAny_pyIter_enum he ?_
    have I2 : Inv X pins σ H1 { s1 with heap := h' } := I1.kept (t' := s1.toks) hk
    refine ⟨s1.heap.objs.size + 1, [s1.heap.objs.size + 1, s1.heap.objs.size], _, _, H1, rfl, I2, turn_enum a (s1.heap.objs.size + 1) s1.heap.objs.size, ⟨⟨.none, he⟩, hit, Nat.succ_ne_self _⟩, fun b hb => ?_, q⟩
    have e' : b = s1.heap.objs.size + 1 ∨ b = s1.heap.objs.size := by simpa using hb
    have hle : s1.heap.objs.size ≤ b := by
      rcases e' with z | z
      · rw [z]; exact Nat.le_add_right _ _
      · rw [z]; exact Nat.le_refl _
    exact I1.fpOk hle (I1.hok.fresh hle)
theorem boot_zip5 : bootBuiltins "zip" = some (.type "zip") := by decide +kernel
def Itz (K : PySem.W.Frag) (a b : Addr) : It :=
  ⟨fun i H => ∃ (xs ys : List V) (x y : V), SqL K H a xs ∧ SqL K H b ys ∧ xs[i]? = some x ∧ ys[i]? = some y,
    fun i H v H' => ∃ T x y, v = .ref T ∧ H T = none ∧ H' = upd H T (.tup [x, y]) ∧ (∀ xs, SqL K H a xs → xs[i]? = some x) ∧ ∀ ys, SqL K H b ys → ys[i]? = some y,
    fun i H => ∃ xs ys : List V, SqL K H a xs ∧ SqL K H b ys ∧ (xs.length ≤ i ∨ ys.length ≤ i)⟩
theorem turn_zip {P : Program} {w : World} {K : PySem.W.Frag} {elts : List Expr} {kk : Nat} {tpos : Pos} {a b z TI TO i1 i2 : Addr} (D : ZipApart z TI TO i1 i2 a b) :
    Turn P w K (.Tuple elts kk tpos) (Itz K a b) [z, TI, TO, i1, i2] z (fun i h => IsZip h z TI TO .none ∧ IsPair h TI (.ref i1) (.ref i2) ∧ (∃ x y, IsPair h TO x y) ∧ h.IsListIter i1 a i ∧ h.IsListIter i2 b i) where
  mem := by simp
  obj := fun i h st c hc => by
    obtain ⟨hz, hTI, ⟨x, y, hTO⟩, ⟨o1, e1, _, d1⟩, ⟨o2, e2, _, d2⟩⟩ := st
    have e' : c = z ∨ c = TI ∨ c = TO ∨ c = i1 ∨ c = i2 := by simpa using hc
    rcases e' with q | q | q | q | q
    · rw [q]; exact ⟨_, hz, fun v q => nomatch q⟩
    · rw [q]; exact ⟨_, hTI, fun v q => nomatch q⟩
    · rw [q]; exact ⟨_, hTO, fun v q => nomatch q⟩
    · rw [q]; exact ⟨o1, e1, fun v q => by rw [d1] at q; cases q⟩
    · rw [q]; exact ⟨o2, e2, fun v q => by rw [d2] at q; cases q⟩
  keep := fun i h h' st k => by
    obtain ⟨hz, hTI, ⟨x, y, hTO⟩, h1, h2⟩ := st
    exact ⟨k z (by simp) _ hz, k TI (by simp) _ hTI, ⟨x, y, k TO (by simp) _ hTO⟩, h1.at fun o q => k i1 (by simp) o q, h2.at fun o q => k i2 (by simp) o q⟩
  item := by
    intro X hP hw hK hc i pins s σ H E I hf st hg
    subst hP hw hK
    obtain ⟨hz, hTI, ⟨x0, y0, hTO⟩, h1, h2⟩ := st
    obtain ⟨xs, ys, x, y, hqx, hqy, hx, hy⟩ := hg
    obtain ⟨its, rv, p, _⟩ := I.list hqx
    obtain ⟨its2, rv2, p2, _⟩ := I.list hqy
    obtain ⟨u, hu, ru⟩ := rv.get hx
    obtain ⟨u2, hu2, ru2⟩ := rv2.get hy
    have hzl : z < s.heap.objs.size := Heap.lt_size hz
    refine wpAny_pyNext_zip_item D hz hTI hTO h1 h2 p.isList p2.isList (x := u) (y := u2) (by simpa using hu) (by simpa using hu2) fun h' z' TO' h1' h2' hT hsz hk => ?_
    refine ⟨_, rfl, wpAny_letOwnedTupleGo_zip (s := { s with heap := h' }) z' fun h'' z'' sb => ?_⟩
    have hT2 : h''.get? s.heap.objs.size = some { cls := .type "tuple", data := .seq #[u, u2] } := (sb.2 _ (Nat.ne_of_gt hzl)).trans hT
    have new : ObjOk X.prog X.w (upd H s.heap.objs.size (.tup [x, y])) h'' s.heap.objs.size (.tup [x, y]) :=
      ⟨by show 2 ≤ sizeLine; decide, [u, u2], .cons ru (.cons ru2 .nil), ⟨_, hT2, rfl, _, rfl⟩⟩
    have I1 : Inv X pins σ (upd H s.heap.objs.size (.tup [x, y])) { s with heap := h'' } :=
      I.turnedNew (t' := s.toks) (ch := [z, TI, TO, i1, i2]) (fun c o hb q => (sb.2 c (fun q' => hb (by simp [q']))).trans (hk c o (fun q' => hb (by simp [q'])) (fun q' => hb (by simp [q'])) (fun q' => hb (by simp [q'])) (fun q' => hb (by simp [q'])) q)) hf (Nat.le_refl _) new
    refine ⟨.ref s.heap.objs.size, _, I1, rfl, ⟨_, x, y, rfl, I.hok.fresh (Nat.le_refl _), rfl, fun l hl => by rw [I.list_inj hl hqx]; exact hx, fun l hl => by rw [I.list_inj hl hqy]; exact hy⟩, ⟨z'', ?_, ⟨u, u2, ?_⟩, ?_, ?_⟩, fun c hcm => ?_⟩
    · exact (sb.2 _ D.TIz).trans (hk _ _ D.TIz D.TITO D.TIi1 D.TIi2 hTI)
    · exact (sb.2 _ D.TOz).trans TO'
    · exact h1'.at fun o q => (sb.2 _ D.i1z).trans q
    · exact h2'.at fun o q => (sb.2 _ D.i2z).trans q
    · have hlt : c < s.heap.objs.size := by
        have e' : c = z ∨ c = TI ∨ c = TO ∨ c = i1 ∨ c = i2 := by simpa using hcm
        rcases e' with q | q | q | q | q
        · rw [q]; exact hzl
        · rw [q]; exact Heap.lt_size hTI
        · rw [q]; exact Heap.lt_size hTO
        · rw [q]; obtain ⟨_, e1, _⟩ := h1; exact Heap.lt_size e1
        · rw [q]; obtain ⟨_, e2, _⟩ := h2; exact Heap.lt_size e2
      rw [upd_ne (Nat.ne_of_lt hlt)]
      exact (hf c hcm).1
  done := by
    intro X hP hw hK hc i pins s σ H E I hf st hg
    subst hP hw hK
    obtain ⟨hz, hTI, ⟨x0, y0, hTO⟩, h1, h2⟩ := st
    obtain ⟨xs, ys, hqx, hqy, hend⟩ := hg
    obtain ⟨its, rv, p, _⟩ := I.list hqx
    obtain ⟨its2, rv2, p2, _⟩ := I.list hqy
    have l1 := rv.length
    have l2 := rv2.length
    have he : its.toArray[i]? = none ∨ its2.toArray[i]? = none := by
      rcases hend with q | q
      · exact .inl (by simp; omega)
      · exact .inr (by simp; omega)
    exact wpAny_pyNext_zip_end (I.ok.hd hc) D hz hTI hTO h1 h2 p.isList p2.isList he fun h' hk => ⟨rfl, I.turnedL (t' := s.toks) (ch := [z, TI, TO, i1, i2]) (fun c o hb q =>
      hk c o (fun q' => hb (by simp [q'])) (fun q' => hb (by simp [q'])) (fun q' => hb (by simp [q'])) (fun q' => hb (by simp [q'])) q) hf⟩
  self := fun A i s Q E st h => wpAny_pyIter_zip st.1 h
def iZip (K : PySem.W.Frag) (ta : TA) : TI := fun σ H R => ta σ H fun vs H1 => ∃ a b xs ys, vs = [.ref a, .ref b] ∧ SqL K H1 a xs ∧ SqL K H1 b ys ∧ R (Itz K a b) H1
theorem pi_zip {X : Cx} {e e2 : Expr} {ta : TA} {p pos tpos : Pos} {elts : List Expr} {kk : Nat} (hg : Gl X "zip") (hm : X.mg "zip" = none) (ha : PA X [e, e2] ta)
    (hs : starEach [e, e2] X.env = (false, eval e X.env) :: starEach [e2] X.env := by rfl) (hpl : (backTo pos (starEach [e2] X.env)).any (·.1) = false := by rfl) :
    PI X (.Tuple elts kk tpos) (.Call (.Name "zip" p) [e, e2] [] pos) (iZip X.K ta) := by
  intro pins s σ H R I h
  refine Call_ (ld_blt I hg hm boot_zip5 (PyProof.Rows.callWith_type1 (thn (ha pos pins s σ H _ I h) fun us s1 ⟨vs, H1, I1, r1, q1⟩ => ?_) hs hpl))
  obtain ⟨a, b, xs, ys, ex, hqx, hqy, q⟩ := q1
  subst ex
  cases r1 with
  | cons r rr =>
    cases rr with
    | cons r' rr =>
      cases rr
      cases r
      cases r'
      obtain ⟨its, rv, p1, _⟩ := I1.list hqx
      obtain ⟨its2, rv2, p2, _⟩ := I1.list hqy
      have la : a < s1.heap.objs.size := p1.lt
      have lb : b < s1.heap.objs.size := p2.lt
      refine call_zip_2 p1.isList p2.isList fun h' hz hTI hTO h1 h2 hsz hk => wpAny_pyIter_zip hz ?_
      have I2 : Inv X pins σ H1 { s1 with heap := h' } := I1.kept (t' := s1.toks) hk
      refine ⟨s1.heap.objs.size + 4, [s1.heap.objs.size + 4, s1.heap.objs.size + 2, s1.heap.objs.size + 3, s1.heap.objs.size, s1.heap.objs.size + 1], _, _, H1, rfl, I2, turn_zip (PySem.W.ktu_apart s1.heap.objs.size a b la lb), ⟨hz, hTI, ⟨_, _, hTO⟩, h1, h2⟩, fun c hcm => ?_, q⟩
      have e' : c = s1.heap.objs.size + 4 ∨ c = s1.heap.objs.size + 2 ∨ c = s1.heap.objs.size + 3 ∨ c = s1.heap.objs.size ∨ c = s1.heap.objs.size + 1 := by simpa using hcm
      have hle : s1.heap.objs.size ≤ c := by
        rcases e' with z | z | z | z | z
        · rw [z]; exact Nat.le_add_right _ _
        · rw [z]; exact Nat.le_add_right _ _
        · rw [z]; exact Nat.le_add_right _ _
        · rw [z]; exact Nat.le_refl _
        · rw [z]; exact Nat.le_add_right _ _
      exact I1.fpOk hle (I1.hok.fresh hle)
end L2
section 
namespace Bits
open PySem PyProof.Rows
theorem nat_xor_add_and (m : Nat) : ∀ n : Nat, (m ^^^ n) + 2 * (m &&& n) = m + n := by
  induction m using Nat.strongRecOn with
  | _ m ih =>
    intro n
    by_cases h0 : m = 0
    · subst h0
      simp
    · have ih' := ih (m / 2) (by omega) (n / 2)
      rw [← Nat.xor_div_two, ← Nat.and_div_two] at ih'
      have o1 := @Nat.xor_mod_two_eq_one m n
      have a1 := @Nat.and_mod_two_eq_one m n
      omega
theorem bitXor_pp {x y : Int} (hx : 0 ≤ x) (hy : 0 ≤ y) : Builtin.bitXor x y = ((x.toNat ^^^ y.toNat : Nat) : Int) := by
  have e := nat_xor_add_and x.toNat y.toNat
  rw [bitXor_and, bitAnd_pp hx hy]
  omega
theorem bitOr_pp {x y : Int} (hx : 0 ≤ x) (hy : 0 ≤ y) : Builtin.bitOr x y = ((x.toNat ||| y.toNat : Nat) : Int) := by
  have e := nat_or_add_and x.toNat y.toNat
  rw [bitOr_and, bitAnd_pp hx hy]
  omega
end Bits
end 
namespace L2
open PySem PySem.Spec PyProof.Rows
def inClass (s : Stmt) (j : Nat) : Stmt := match s with
  | .ClassDef _ _ _ body _ _ _ _ _ _ _ => body.getD j (.Pass ⟨0, 0, 0, 0⟩)
  | _ => .Pass ⟨0, 0, 0, 0⟩
def defArgs (s : Stmt) : Arguments := match s with
  | .FunctionDef _ a _ _ _ _ _ _ _ _ => a
  | _ => { posonlyargs := [], args := [], vararg := none, kwonlyargs := [], kw_defaults := [], kwarg := none, defaults := [] }
def defBody (s : Stmt) : List Stmt := match s with
  | .FunctionDef _ _ b _ _ _ _ _ _ _ => b
  | _ => []
def defScope (s : Stmt) : Scope := match s with
  | .FunctionDef _ _ _ _ _ _ sc _ _ _ => sc
  | _ => { kind := .function, names := [], isGenerator := false, isCoroutine := false }
abbrev CX0 : CXT := fun _ _ _ _ _ _ => False
abbrev E0 : XK := fun _ _ _ => False
theorem pass0 {X : Cx} : Passes CX0 X E0 := fun _ _ _ _ _ _ _ h => h.elim
structure Fun (K : PySem.W.Frag) (x qual : Str) (st : Stmt) (f : Addr) (fd : FuncData) : Prop where
  ex : ∃ (oc : Value) (od : Option Addr) (kV doc pm : Value) (an : Option Addr) (cdv ct : Value) (osl : Array (Option Value)),
    fd = PySem.W.fnOf x qual (defArgs st) (defBody st) (defScope st) .none kV doc pm an cdv ct ∧ K.lookup f = some ⟨oc, od, .func fd, osl⟩ ∧ PySem.W.codeIn K cdv qual = true
  kp : PySem.W.keepIn K (.ref f) = true
section
variable {P : Program} {w : World} {K : PySem.W.Frag} {mg : Str → Option Value} {base : Heap}
theorem Fun.ok {x qual : Str} {st : Stmt} {f : Addr} {fd : FuncData} {N ps : List Str} {k : Nat} {sp : Sp} (F : Fun K x qual st f fd) (S : FnScope N ps (defScope st)) (len : ∀ vs H Q E, sp vs H Q E → vs.length = ps.length)
    (hbody : ∀ (cdv : Value) (A : Around) (outer : List Env) (s : Shared) (H : Hp) (vs : List V) (Q : VK) (E : XK), Room k (A.deeper (envOfC qual (defScope st) s.heap.objs.size f cdv)) → sp vs H Q E →
      ∃ t, PSs (cxOf CX0 P w K mg base N qual (defScope st) f cdv A outer s H E).nox (defBody st) t ∧ t { nx := fun _ H' => Q .non H', rt := Q } (start N vs) H) : FnOk P w K mg base CX0 (k + 1) f fd ps sp := by
  obtain ⟨oc, od, kV, doc, pm, an, cdv, ct, osl, rfl, lk, hcd⟩ := F.ex
  refine fn_of lk hcd S len fun A outer s H vs Q E hr hsp => ?_
  obtain ⟨t, h, q⟩ := hbody cdv A outer s H vs Q E hr hsp
  exact ⟨t, h.nox, q⟩
theorem Fun.binds {x qual : Str} {st : Stmt} {f : Addr} {fd : FuncData} {ps : List Str} (F : Fun K x qual st f fd)
    (h : ∀ (kV doc pm : Value) (an : Option Addr) (cdv ct : Value) (us : List Value), us.length = ps.length → bindArgs (PySem.W.fnOf x qual (defArgs st) (defBody st) (defScope st) .none kV doc pm an cdv ct) ⟨us, []⟩ = pure (ps.zip us)) : Binds K fd ps [] := by
  obtain ⟨oc, od, kV, doc, pm, an, cdv, ct, osl, rfl, lk, hcd⟩ := F.ex
  exact .all (h kV doc pm an cdv ct)
theorem fun_mk {x qual : Str} {st : Stmt} {f : Addr} {oc : Value} {od an : Option Addr} {osl : Array (Option Value)} {kV doc pm cdv ct : Value} (l : K.lookup f = some ⟨oc, od, .func (PySem.W.fnOf x qual (defArgs st) (defBody st) (defScope st) .none kV doc pm an cdv ct), osl⟩)
    (c : PySem.W.codeIn K cdv qual = true) (k : PySem.W.keepIn K (.ref f) = true) : Fun K x qual st f (PySem.W.fnOf x qual (defArgs st) (defBody st) (defScope st) .none kV doc pm an cdv ct) := ⟨⟨oc, od, kV, doc, pm, an, cdv, ct, osl, rfl, l, c⟩, k⟩
end
theorem hu_of {A : Around} {k : Nat} (hr : Room k A) : A.units + 1 < cLine := Nat.lt_of_le_of_lt (Nat.add_le_add_left (by decide : 1 ≤ 64) _) hr.units
section
variable {X : Cx}
theorem pv (i : Nat) {x : Str} {pos : Pos} (hN : X.N[i]? = some x := by rfl) (hv : Vis X.env.scope x := by first | exact Or.inl rfl | exact Or.inr (Or.inl rfl) | exact Or.inr (Or.inr rfl)) (hd : (x == ("__debug__" : Str)) = false := by decide)
    (hcd : (x == ("__classdict__" : Str)) = false := by decide) : PE X (.Name x pos) (tVar i) := pe_var hN hv hd hcd
end
theorem iteF {A B : Prop} (h : B) : if false = true then A else B := by
  rw [if_neg Bool.false_ne_true]
  exact h
theorem iteT {A B : Prop} (h : A) : if true = true then A else B := by
  rw [if_pos rfl]
  exact h
theorem ite2 {c A B : Prop} [Decidable c] (h1 : c → A) (h2 : ¬ c → B) : if c then A else B := by
  by_cases h : c
  · rw [if_pos h]
    exact h1 h
  · rw [if_neg h]
    exact h2 h
theorem iteNS {c A B : Prop} [Decidable c] (hc : c) (h : B) : if (!decide c) = true then A else B := by
  rw [decide_eq_true hc]
  exact iteF h
def Same (H H' : Hp) : Prop := ∀ b o, H b = some o → H' b = some o
theorem Same.trans {H H1 H2 : Hp} (a : Same H H1) (b : Same H1 H2) : Same H H2 := fun c o h => b c o (a c o h)
theorem Same.free {H H' : Hp} (e : Same H H') {l : Addr} (h : H' l = Option.none) : H l = Option.none := by
  cases q : H l with
  | none => rfl
  | some o =>
    rw [e l o q] at h
    cases h
theorem Same.seq {K : PySem.W.Frag} {H H' : Hp} {a : Addr} {xs : List V} (e : Same H H') (h : SqL K H a xs) : SqL K H' a xs := by
  rcases h with (h | ⟨o, h⟩) | h
  · exact .inl (.inl (e _ _ h))
  · exact .inl (.inr ⟨o, e _ _ h⟩)
  · exact .inr h
theorem at_of {xs : List V} {z : Int} {j : Nat} {v : V} (e : z = (j : Int)) (h : xs[j]? = some v) : atI xs z = some v := by
  rw [e]
  exact atI_nat h
theorem Same.made {H H1 : Hp} {x dx C : Addr} (nx : H x = Option.none) (nd : H dx = Option.none) (k : ∀ b o, (upd (upd H dx (.own x)) x (.ins C dx [])) b = some o → b ≠ x → H1 b = some o) : Same H H1 := fun b o e =>
  k b o (by rw [upd_ne (ne_of_none e nx), upd_ne (ne_of_none e nd)]; exact e) (ne_of_none e nx)
end L2
end
section
section
set_option Elab.async false
set_option linter.all false
set_option maxRecDepth 100000
set_option maxHeartbeats 2000000
namespace L2
open PySem PySem.Spec PyProof.Rows
open PySem.W (WData Codec OpenSpec Well WellAll ReadsW ReadsAllW)
mutual
/-- x stands for the datum d, lists and tuples all the way -/
inductive Dw (K : PySem.W.Frag) (H : Hp) : V → WData → Prop
  | non : Dw K H .non .none
  | bl (b : Bool) : Dw K H (.bl b) (.bool b)
  | int (i : Int) : Dw K H (.int i) (.int i)
  | str (x : Str) : Dw K H (.str x) (.str x)
  | byt (b : Array UInt8) : Dw K H (.byt b) (.bytes b.toList)
  | lst {a : Addr} {xs : List V} {ds : List WData} : SqL K H a xs → DwAll K H xs ds → Dw K H (.ref a) (.list ds)
  | tup {a : Addr} {xs : List V} {ds : List WData} : SqT K H a xs → DwAll K H xs ds → Dw K H (.ref a) (.tuple ds)
inductive DwAll (K : PySem.W.Frag) (H : Hp) : List V → List WData → Prop
  | nil : DwAll K H [] []
  | cons {v : V} {vs : List V} {d : WData} {ds : List WData} : Dw K H v d → DwAll K H vs ds → DwAll K H (v :: vs) (d :: ds)
end
theorem dw_ints {K : PySem.W.Frag} {H : Hp} : ∀ ns : List Int, DwAll K H (ns.map V.int) (ns.map WData.int)
  | [] => .nil
  | n :: r => .cons (.int n) (dw_ints r)
theorem ints_dw {K : PySem.W.Frag} {H : Hp} : ∀ (ns : List Int) (xs : List V), DwAll K H xs (ns.map WData.int) → xs = ns.map V.int
  | [], xs, h => by
    cases h
    rfl
  | n :: r, xs, h => by
    cases h with
    | cons h1 h2 =>
      cases h1
      rw [ints_dw r _ h2] <;> rfl
section
variable {P : Program} {w : World} {K : PySem.W.Frag} {H : Hp} {h : Heap} {R : PySem.W.WRecords} {cl : Str → Option Addr}
theorem sqL_at {a : Addr} {xs : List V} (hok : HOk P w H h) (KX : K.In h) (q : SqL K H a xs) : ∃ (its : List Value) (o : Obj) (n : Nat), Vals xs its ∧ h.get? a = some o ∧ o.cls = .type "list" ∧ o.data = .seq its.toArray n := by
  rcases q with q | ⟨o, its, n, e, hc, _, hd, _, hv⟩
  · obtain ⟨_, its, n, hv, e⟩ := (show ObjOk P w H h a (.lst xs) from q.ok hok)
    exact ⟨its, _, n, hv, e, rfl, rfl⟩
  · exact ⟨its.toList, o, n, hv, KX _ _ e, hc, by simp [hd]⟩
theorem sqT_at {a : Addr} {xs : List V} (hok : HOk P w H h) (KX : K.In h) (q : SqT K H a xs) : ∃ (its : List Value) (o : Obj) (n : Nat), Vals xs its ∧ h.get? a = some o ∧ o.cls = .type "tuple" ∧ o.data = .seq its.toArray n := by
  rcases q with q | ⟨o, its, n, e, hc, hd, _, hv⟩
  · obtain ⟨_, its, hv, o, e, hc, n, hd⟩ := (show ObjOk P w H h a (.tup xs) from q.ok hok)
    exact ⟨its, o, n, hv, e, hc, hd⟩
  · exact ⟨its.toList, o, n, hv, KX _ _ e, hc, by simp [hd]⟩
mutual
theorem Dw.reads (hok : HOk P w H h) (KX : K.In h) : ∀ (d : WData) (v : V) (u : Value), Dw K H v d → RelV v u → ∃ as, ReadsW R cl h u d as
  | .none, _, _, x, r => by
    cases x
    cases r
    exact ⟨_, ReadsW.none⟩
  | .bool b, _, _, x, r => by
    cases x
    cases r
    exact ⟨_, ReadsW.bool b⟩
  | .int i, _, _, x, r => by
    cases x
    obtain ⟨t, rfl⟩ := r
    exact ⟨_, ReadsW.int i t⟩
  | .str s, _, _, x, r => by
    cases x
    obtain ⟨t, rfl⟩ := r
    exact ⟨_, ReadsW.str s t⟩
  | .bytes b, _, _, x, r => by
    cases x
    obtain ⟨t, rfl⟩ := r
    exact ⟨_, ReadsW.bytes _ t⟩
  | .list ds, _, _, x, r => by
    cases x with
    | lst hs ha =>
      cases r
      obtain ⟨its, o, n, rv, ho, hc, hd⟩ := sqL_at hok KX hs
      obtain ⟨as, hr⟩ := Dw.readsAll hok KX ds _ its ha rv
      exact ⟨_, ReadsW.list ho hc hd hr⟩
  | .tuple ds, _, _, x, r => by
    cases x with
    | tup hs ha =>
      cases r
      obtain ⟨its, o, n, rv, ho, hc, hd⟩ := sqT_at hok KX hs
      obtain ⟨as, hr⟩ := Dw.readsAll hok KX ds _ its ha rv
      exact ⟨_, ReadsW.tuple ho hc hd hr⟩
  | .float _, _, _, x, _ => by cases x
  | .dict _, _, _, x, _ => by cases x
  | .bytearray _, _, _, x, _ => by cases x
  | .set _, _, _, x, _ => by cases x
  | .frozenset _, _, _, x, _ => by cases x
  | .obj _ _, _, _, x, _ => by cases x
theorem Dw.readsAll (hok : HOk P w H h) (KX : K.In h) : ∀ (ds : List WData) (vs : List V) (us : List Value), DwAll K H vs ds → Vals vs us → ∃ as, ReadsAllW R cl h us ds as
  | [], _, _, x, r => by
    cases x
    cases r
    exact ⟨_, ReadsAllW.nil⟩
  | d :: ds, _, _, x, r => by
    cases x with
    | cons h1 h2 =>
      cases r with
      | cons r1 r2 =>
        obtain ⟨as, q1⟩ := Dw.reads hok KX d _ _ h1 r1
        obtain ⟨bs, q2⟩ := Dw.readsAll hok KX ds _ _ h2 r2
        exact ⟨_, ReadsAllW.cons q1 q2⟩
end
end
mutual
/-- data that a codec tells -/
def plW : WData → Bool
  | .none => true
  | .bool _ => true
  | .int _ => true
  | .str _ => true
  | .bytes _ => true
  | .list xs => plWs xs
  | .tuple xs => plWs xs
  | _ => false
def plWs : List WData → Bool
  | [] => true
  | x :: r => plW x && plWs r
end
theorem plWs_map {α : Type} {f : α → WData} (h : ∀ a, plW (f a) = true) : ∀ l : List α, plWs (l.map f) = true
  | [] => rfl
  | x :: r => by
    show (plW (f x) && plWs (r.map f)) = true
    rw [h x, plWs_map h r] <;> rfl
theorem pl_enc : ∀ (c : Codec) (a : c.denote), plW (c.enc a) = true
  | .unit, _ => rfl
  | .bool, _ => rfl
  | .int _ _, _ => rfl
  | .nat _ _, _ => rfl
  | .u8, _ => rfl
  | .bytes _ _, _ => rfl
  | .text _ _ _ _, _ => rfl
  | .list _ _ c, a => plWs_map (fun x => pl_enc c x) a
  | .pair c d, a => by
    show (plW (c.enc a.1) && (plW (d.enc a.2) && true)) = true
    rw [pl_enc c a.1, pl_enc d a.2] <;> rfl
  | .triple c d e, a => by
    show (plW (c.enc a.1) && (plW (d.enc a.2.1) && (plW (e.enc a.2.2) && true))) = true
    rw [pl_enc c a.1, pl_enc d a.2.1, pl_enc e a.2.2] <;> rfl
  | .option c, none => rfl
  | .option c, some x => pl_enc c x
theorem pl_encAll : ∀ (cs : List Codec) (a : Codec.denoteAll cs), plWs (Codec.encAll cs a) = true
  | [], _ => rfl
  | c :: cs, a => by
    show (plW (c.enc a.1) && plWs (Codec.encAll cs a.2)) = true
    rw [pl_enc c a.1, pl_encAll cs a.2] <;> rfl
theorem weight_mem : ∀ {xs : List WData} {d : WData}, d ∈ xs → d.weight ≤ WData.weightAll xs
  | [], d, h => absurd h (by simp)
  | x :: r, d, h => by
    show d.weight ≤ x.weight + 1 + WData.weightAll r
    rcases List.mem_cons.mp h with e | m
    · rw [e]
      omega
    · have z := weight_mem m
      omega
def toV : Value → V
  | .none => .non
  | .bool b => .bl b
  | .int i _ => .int i
  | .str x _ => .str x
  | .bytes b _ => .byt b
  | .ref a => .ref a
  | _ => .non
def OkU (A : List Addr) : Value → Prop
  | .none => True
  | .bool _ => True
  | .int _ _ => True
  | .str _ _ => True
  | .bytes _ _ => True
  | .ref a => a ∈ A
  | _ => False
theorem OkU.mono {A B : List Addr} (h : ∀ a ∈ A, a ∈ B) : ∀ {u : Value}, OkU A u → OkU B u := fun {u} x => by
  cases u with
  | ref a => exact h a x
  | none => trivial
  | bool b => trivial
  | int i t => trivial
  | str s t => trivial
  | bytes b t => trivial
  | _ => exact False.elim x
theorem relV_toV {A : List Addr} {u : Value} (x : OkU A u) : RelV (toV u) u := by
  cases u with
  | ref a => rfl
  | none => rfl
  | bool b => rfl
  | int i t => exact ⟨t, rfl⟩
  | str s t => exact ⟨t, rfl⟩
  | bytes b t => exact ⟨t, rfl⟩
  | _ => exact False.elim x
theorem vals_toV {A : List Addr} : ∀ {vs : List Value}, (∀ u ∈ vs, OkU A u) → Vals (vs.map toV) vs
  | [], _ => .nil
  | u :: r, h => .cons (relV_toV (h u (List.mem_cons_self ..))) (vals_toV fun x hx => h x (List.mem_cons_of_mem _ hx))
def ArgOb (h : Heap) (A : List Addr) (a : Addr) : Prop := ∃ vs : List Value, vs.length ≤ sizeLine ∧ (∀ u ∈ vs, OkU A u) ∧
  (h.get? a = some { cls := .type "list", data := .seq vs.toArray } ∨ h.get? a = some { cls := .type "tuple", data := .seq vs.toArray })
theorem ArgOb.mono {h : Heap} {A B : List Addr} {a : Addr} (k : ∀ a ∈ A, a ∈ B) (x : ArgOb h A a) : ArgOb h B a := by
  obtain ⟨vs, h1, h2, h3⟩ := x
  exact ⟨vs, h1, fun u hu => (h2 u hu).mono k, h3⟩
theorem wellAll_len {P : Params} {h : Heap} : ∀ {vs : List Value} {ds : List WData}, WellAll P h vs ds → vs.length = ds.length
  | _, _, .nil => rfl
  | _, _, .cons _ b => by
    show _ + 1 = _ + 1
    rw [wellAll_len b]
theorem well_list {P : Params} {h : Heap} {v : Value} {ds : List WData} (x : Well P h v (.list ds)) : ∃ (a : Addr) (vs : List Value), v = .ref a ∧ h.get? a = some { cls := .type "list", data := .seq vs.toArray } ∧ WellAll P h vs ds := by
  cases x with
  | list ho hall => exact ⟨_, _, rfl, ho, hall⟩
theorem well_tuple {P : Params} {h : Heap} {v : Value} {ds : List WData} (x : Well P h v (.tuple ds)) : ∃ (a : Addr) (vs : List Value), v = .ref a ∧ h.get? a = some { cls := .type "tuple", data := .seq vs.toArray } ∧ WellAll P h vs ds := by
  cases x with
  | tuple ho hall => exact ⟨_, _, rfl, ho, hall⟩
theorem well_cons {P : Params} {h : Heap} {us : List Value} {d : WData} {ds : List WData} (x : WellAll P h us (d :: ds)) : ∃ (v : Value) (vs : List Value), us = v :: vs ∧ Well P h v d ∧ WellAll P h vs ds := by
  cases x with
  | cons a b => exact ⟨_, _, rfl, a, b⟩
theorem line_of {n : Nat} (h : n ≤ 1048576) : n ≤ sizeLine := Nat.le_trans h (by decide)
section
variable {P : Params} {h : Heap}
mutual
theorem area_one : ∀ (d : WData) (v : Value), Well P h v d → plW d = true → d.weight ≤ 1048576 → ∃ A : List Addr, OkU A v ∧ ∀ a ∈ A, ArgOb h A a
  | .none, _, x, _, _ => by
    cases x
    exact ⟨[], trivial, fun a m => absurd m (by simp)⟩
  | .bool b, _, x, _, _ => by
    cases x
    exact ⟨[], trivial, fun a m => absurd m (by simp)⟩
  | .int i, _, x, _, _ => by
    cases x
    exact ⟨[], trivial, fun a m => absurd m (by simp)⟩
  | .str s, _, x, _, _ => by
    cases x
    exact ⟨[], trivial, fun a m => absurd m (by simp)⟩
  | .bytes b, _, x, _, _ => by
    cases x
    exact ⟨[], trivial, fun a m => absurd m (by simp)⟩
  | .list ds, _, x, p, z => by
    obtain ⟨a, vs, rfl, ho, hall⟩ := well_list x
    have z2 : WData.weightAll ds ≤ 1048576 := z
    obtain ⟨A, h1, h2⟩ := area_all ds _ hall p fun d hd => Nat.le_trans (weight_mem hd) z2
    have k : ∀ b ∈ A, b ∈ a :: A := fun b hb => List.mem_cons_of_mem _ hb
    refine ⟨a :: A, List.mem_cons_self .., fun b hb => ?_⟩
    rcases List.mem_cons.mp hb with e | m
    · rw [e]
      exact ⟨vs, line_of (by rw [wellAll_len hall]; exact Nat.le_trans (PySem.W.length_le_weightAllW ds) z2), fun u hu => (h1 u hu).mono k, .inl ho⟩
    · exact (h2 b m).mono k
  | .tuple ds, _, x, p, z => by
    obtain ⟨a, vs, rfl, ho, hall⟩ := well_tuple x
    have z2 : WData.weightAll ds ≤ 1048576 := z
    obtain ⟨A, h1, h2⟩ := area_all ds _ hall p fun d hd => Nat.le_trans (weight_mem hd) z2
    have k : ∀ b ∈ A, b ∈ a :: A := fun b hb => List.mem_cons_of_mem _ hb
    refine ⟨a :: A, List.mem_cons_self .., fun b hb => ?_⟩
    rcases List.mem_cons.mp hb with e | m
    · rw [e]
      exact ⟨vs, line_of (by rw [wellAll_len hall]; exact Nat.le_trans (PySem.W.length_le_weightAllW ds) z2), fun u hu => (h1 u hu).mono k, .inr ho⟩
    · exact (h2 b m).mono k
  | .float _, _, _, p, _ => Bool.noConfusion (show false = true from p)
  | .dict _, _, _, p, _ => Bool.noConfusion (show false = true from p)
  | .bytearray _, _, _, p, _ => Bool.noConfusion (show false = true from p)
  | .set _, _, _, p, _ => Bool.noConfusion (show false = true from p)
  | .frozenset _, _, _, p, _ => Bool.noConfusion (show false = true from p)
  | .obj _ _, _, _, p, _ => Bool.noConfusion (show false = true from p)
theorem area_all : ∀ (ds : List WData) (vs : List Value), WellAll P h vs ds → plWs ds = true → (∀ d ∈ ds, d.weight ≤ 1048576) → ∃ A : List Addr, (∀ u ∈ vs, OkU A u) ∧ ∀ a ∈ A, ArgOb h A a
  | [], _, x, _, _ => by
    cases x
    exact ⟨[], fun u m => absurd m (by simp), fun a m => absurd m (by simp)⟩
  | d :: ds, _, x, p, z => by
    obtain ⟨v, vs, rfl, x1, x2⟩ := well_cons x
    have q : plW d = true ∧ plWs ds = true := Bool.and_eq_true_iff.mp p
    obtain ⟨A, a1, a2⟩ := area_one d v x1 q.1 (z d (List.mem_cons_self ..))
    obtain ⟨B, b1, b2⟩ := area_all ds vs x2 q.2 fun e he => z e (List.mem_cons_of_mem _ he)
    have kA : ∀ b ∈ A, b ∈ A ++ B := fun b hb => List.mem_append.mpr (.inl hb)
    have kB : ∀ b ∈ B, b ∈ A ++ B := fun b hb => List.mem_append.mpr (.inr hb)
    refine ⟨A ++ B, fun u hu => ?_, fun b hb => ?_⟩
    · rcases List.mem_cons.mp hu with e | m
      · rw [e]
        exact a1.mono kA
      · exact (b1 u m).mono kB
    · rcases List.mem_append.mp hb with m | m
      · exact (a2 b m).mono kA
      · exact (b2 b m).mono kB
end
end
def hoOf (o : Obj) : Option HO := match o.data with
  | .seq vs _ => if (o.cls == Value.type "list") = true then some (.frz o (.lst (vs.toList.map toV))) else some (.frz o (.tup (vs.toList.map toV)))
  | _ => none
def argH (K : PySem.W.Frag) (h : Heap) (A : List Addr) : Hp := fun b => if b ∈ A then (if (K.lookup b).isNone = true then (h.get? b).bind hoOf else none) else none
def OnlyF (H : Hp) : Prop := ∀ b, H b = none ∨ ∃ o u, H b = some (.frz o u)
theorem hoOf_lst (vs : List Value) : hoOf { cls := .type "list", data := .seq vs.toArray } = some (.frz { cls := .type "list", data := .seq vs.toArray } (.lst (vs.map toV))) := by
  show (if (Value.type "list" == Value.type "list") = true then some (HO.frz { cls := .type "list", data := .seq vs.toArray } (.lst (vs.toArray.toList.map toV))) else some (HO.frz { cls := .type "list", data := .seq vs.toArray } (.tup (vs.toArray.toList.map toV)))) = _
  rw [if_pos (beq_self_eq_true _)]
theorem hoOf_tup (vs : List Value) : hoOf { cls := .type "tuple", data := .seq vs.toArray } = some (.frz { cls := .type "tuple", data := .seq vs.toArray } (.tup (vs.map toV))) := by
  show (if (Value.type "tuple" == Value.type "list") = true then some (HO.frz { cls := .type "tuple", data := .seq vs.toArray } (.lst (vs.toArray.toList.map toV))) else some (HO.frz { cls := .type "tuple", data := .seq vs.toArray } (.tup (vs.toArray.toList.map toV)))) = _
  rw [if_neg (by decide)]
section
variable {P : Program} {w : World} {K : PySem.W.Frag} {h : Heap} {A : List Addr}
theorem argH_at {b : Addr} {o : Obj} (hb : b ∈ A) (hk : K.lookup b = none) (e : h.get? b = some o) : argH K h A b = hoOf o := by
  unfold argH
  rw [if_pos hb, hk, if_pos (show (none : Option Obj).isNone = true from rfl), e] <;> rfl
theorem of_argH {b : Addr} {u : HO} (q : argH K h A b = some u) : b ∈ A ∧ K.lookup b = none := by
  unfold argH at q
  by_cases hb : b ∈ A
  · rw [if_pos hb] at q
    cases hk : K.lookup b with
    | none => exact ⟨hb, rfl⟩
    | some o =>
      rw [hk, if_neg (by simp)] at q
      cases q
  · rw [if_neg hb] at q
    cases q
theorem argH_is (ar : ∀ a ∈ A, ArgOb h A a) {b : Addr} {u : HO} (q : argH K h A b = some u) : K.lookup b = none ∧ ∃ vs : List Value, vs.length ≤ sizeLine ∧ (∀ u ∈ vs, OkU A u) ∧
    ((h.get? b = some { cls := .type "list", data := .seq vs.toArray } ∧ u = .frz { cls := .type "list", data := .seq vs.toArray } (.lst (vs.map toV))) ∨
     (h.get? b = some { cls := .type "tuple", data := .seq vs.toArray } ∧ u = .frz { cls := .type "tuple", data := .seq vs.toArray } (.tup (vs.map toV)))) := by
  obtain ⟨hb, hk⟩ := of_argH q
  obtain ⟨vs, h1, h2, h3⟩ := ar b hb
  refine ⟨hk, vs, h1, h2, ?_⟩
  rcases h3 with e | e
  · rw [argH_at hb hk e, hoOf_lst] at q
    exact .inl ⟨e, (Option.some.inj q).symm⟩
  · rw [argH_at hb hk e, hoOf_tup] at q
    exact .inr ⟨e, (Option.some.inj q).symm⟩
theorem argH_only (ar : ∀ a ∈ A, ArgOb h A a) : OnlyF (argH K h A) := fun b => by
  cases q : argH K h A b with
  | none => exact .inl rfl
  | some u =>
    obtain ⟨_, vs, _, _, ⟨_, e⟩ | ⟨_, e⟩⟩ := argH_is ar q
    · exact .inr ⟨_, _, by rw [e]⟩
    · exact .inr ⟨_, _, by rw [e]⟩
theorem argH_ok (ar : ∀ a ∈ A, ArgOb h A a) : HOk P w (argH K h A) h := fun b u q => by
  obtain ⟨_, vs, h1, h2, ⟨e, rfl⟩ | ⟨e, rfl⟩⟩ := argH_is ar q
  · exact ⟨e, by rw [List.length_map]; exact h1, vs, _, vals_toV h2, e⟩
  · exact ⟨e, by rw [List.length_map]; exact h1, vs, vals_toV h2, _, e, rfl, _, rfl⟩
theorem seq_inj {c c' : Value} {vs us : List Value} (e : (some { cls := c, data := .seq vs.toArray } : Option Obj) = some { cls := c', data := .seq us.toArray }) : c = c' ∧ vs = us := by
  have e1 := Option.some.inj e
  have e2 : c = c' := congrArg Obj.cls e1
  have e3 : Data.seq vs.toArray = Data.seq us.toArray := congrArg Obj.data e1
  injection e3 with e4
  refine ⟨e2, ?_⟩
  have e5 := congrArg Array.toList e4
  simpa using e5
theorem argL (KX : K.In h) (ar : ∀ a ∈ A, ArgOb h A a) {a : Addr} {vs : List Value} (ha : a ∈ A) (e : h.get? a = some { cls := .type "list", data := .seq vs.toArray }) : (∀ u ∈ vs, OkU A u) ∧ SqL K (argH K h A) a (vs.map toV) := by
  obtain ⟨us, h1, h2, h3⟩ := ar a ha
  have hu : us = vs := by
    rcases h3 with q | q
    · rw [e] at q
      exact (seq_inj q).2.symm
    · rw [e] at q
      exact absurd (Value.type.inj (seq_inj q).1) (by decide)
  subst hu
  refine ⟨h2, ?_⟩
  cases hk : K.lookup a with
  | none => exact .inl (.inr ⟨_, by rw [argH_at ha hk e, hoOf_lst]⟩)
  | some o =>
    have e2 := KX a o hk
    rw [e] at e2
    obtain rfl := Option.some.inj e2
    exact .inr ⟨_, us.toArray, _, hk, rfl, rfl, rfl, by rw [List.size_toArray]; exact h1, by simpa using vals_toV h2⟩
theorem argT (KX : K.In h) (ar : ∀ a ∈ A, ArgOb h A a) {a : Addr} {vs : List Value} (ha : a ∈ A) (e : h.get? a = some { cls := .type "tuple", data := .seq vs.toArray }) : (∀ u ∈ vs, OkU A u) ∧ SqT K (argH K h A) a (vs.map toV) := by
  obtain ⟨us, h1, h2, h3⟩ := ar a ha
  have hu : us = vs := by
    rcases h3 with q | q
    · rw [e] at q
      exact absurd (Value.type.inj (seq_inj q).1) (by decide)
    · rw [e] at q
      exact (seq_inj q).2.symm
  subst hu
  refine ⟨h2, ?_⟩
  cases hk : K.lookup a with
  | none => exact .inl (.inr ⟨_, by rw [argH_at ha hk e, hoOf_tup]⟩)
  | some o =>
    have e2 := KX a o hk
    rw [e] at e2
    obtain rfl := Option.some.inj e2
    exact .inr ⟨_, us.toArray, _, hk, rfl, rfl, by rw [List.size_toArray]; exact h1, by simpa using vals_toV h2⟩
mutual
theorem dw_one {Pm : Params} (KX : K.In h) (ar : ∀ a ∈ A, ArgOb h A a) : ∀ (d : WData) (v : Value), Well Pm h v d → plW d = true → OkU A v → Dw K (argH K h A) (toV v) d
  | .none, _, x, _, _ => by
    cases x
    exact .non
  | .bool b, _, x, _, _ => by
    cases x
    exact .bl b
  | .int i, _, x, _, _ => by
    cases x
    exact .int i
  | .str s, _, x, _, _ => by
    cases x
    exact .str s
  | .bytes b, _, x, _, _ => by
    cases x
    have z := Dw.byt (K := K) (H := argH K h A) b.toArray
    exact z
  | .list ds, _, x, p, hu => by
    obtain ⟨a, vs, rfl, ho, hall⟩ := well_list x
    obtain ⟨h2, hs⟩ := argL KX ar hu ho
    exact .lst hs (dw_all KX ar ds _ hall p h2)
  | .tuple ds, _, x, p, hu => by
    obtain ⟨a, vs, rfl, ho, hall⟩ := well_tuple x
    obtain ⟨h2, hs⟩ := argT KX ar hu ho
    exact .tup hs (dw_all KX ar ds _ hall p h2)
  | .float _, _, _, p, _ => Bool.noConfusion (show false = true from p)
  | .dict _, _, _, p, _ => Bool.noConfusion (show false = true from p)
  | .bytearray _, _, _, p, _ => Bool.noConfusion (show false = true from p)
  | .set _, _, _, p, _ => Bool.noConfusion (show false = true from p)
  | .frozenset _, _, _, p, _ => Bool.noConfusion (show false = true from p)
  | .obj _ _, _, _, p, _ => Bool.noConfusion (show false = true from p)
theorem dw_all {Pm : Params} (KX : K.In h) (ar : ∀ a ∈ A, ArgOb h A a) : ∀ (ds : List WData) (vs : List Value), WellAll Pm h vs ds → plWs ds = true → (∀ u ∈ vs, OkU A u) → DwAll K (argH K h A) (vs.map toV) ds
  | [], _, x, _, _ => by
    cases x
    exact .nil
  | d :: ds, _, x, p, hu => by
    obtain ⟨v, vs, rfl, x1, x2⟩ := well_cons x
    have q : plW d = true ∧ plWs ds = true := Bool.and_eq_true_iff.mp p
    exact .cons (dw_one KX ar d v x1 q.1 (hu _ (List.mem_cons_self ..))) (dw_all KX ar ds vs x2 q.2 fun u m => hu u (List.mem_cons_of_mem _ m))
end
end
theorem spec_call {P : Program} {w : World} {K : PySem.W.Frag} {mg mb : Str → Option Value} {CX : CXT} {k : Nat} {fa : Addr} {fd : FuncData} {ps : List Str} {sp : Sp} {s₁ : Shared} {vals : List Value} {ds : List WData} {R : PySem.W.WRecords} {cl : Str → Option Addr} {d0 : WData}
    (KX : K.In s₁.heap) (hns : s₁.heap.Ns mainGlobals mg) (hb : s₁.heap.Ns builtinsNs mb) (hbb : ∀ x : Str, x ≠ "__name__" → mb x = bootBuiltins x) (hlim : s₁.heap.NoLimit) (hg : s₁.gens = #[])
    (hwl : WellAll w.params s₁.heap vals ds) (hpl : plWs ds = true) (hwt : ∀ d ∈ ds, d.weight ≤ 1048576) (hr : Room k callerA)
    (F : ∀ base : Heap, K.In base → base.Ns mainGlobals mg → FnOk P w K mg base CX k fa fd ps sp) (hbind : ∀ (s : Shared) (us : List Value), us.length = ps.length → BindsTo s fd ⟨us, []⟩ (ps.zip us)) (hlen : ds.length = ps.length)
    (hsp : ∀ (H : Hp) (xs : List V), OnlyF H → DwAll K H xs ds → sp xs H (fun v H' => Dw K H' v d0) fun _ _ _ => False)
    (hCX : ∀ H e s', CX [] H s₁ (fun _ _ _ => False) e s' → False) :
    codeAny (model P w) callerA (.call (.ref fa) ⟨vals, []⟩) (fun r s' => ∃ u as, r = .ok (.ret u) ∧ ReadsW R cl s'.heap u d0 as ∧ OldK s₁.heap s'.heap ∧ s'.os = s₁.os ∧ AllBare s'.gens) s₁ := by
  obtain ⟨A, ho, ar⟩ := area_all ds vals hwl hpl hwt
  have hO : OnlyF (argH K s₁.heap A) := argH_only ar
  have hok : HOk P w (argH K s₁.heap A) s₁.heap := argH_ok ar
  have hS := dw_all KX ar ds vals hwl hpl ho
  have hV := vals_toV ho
  have hK : ∀ b u, argH K s₁.heap A b = some u → K.lookup b = none := fun b u q => (argH_is ar q).1
  have noA : ∀ {b : Addr} {o : Obj} {es : Array DictEntry} {ep : Nat}, s₁.heap.get? b = some o → o.data = .dict es ep → argH K s₁.heap A b = none := fun {b o es ep} e d => by
    cases q : argH K s₁.heap A b with
    | none => rfl
    | some u =>
      obtain ⟨_, vs, _, _, ⟨e2, _⟩ | ⟨e2, _⟩⟩ := argH_is ar q
      · rw [e2] at e
        cases e
        have d' : Data.seq vs.toArray _ = Data.dict es ep := d
        cases d'
      · rw [e2] at e
        cases e
        have d' : Data.seq vs.toArray _ = Data.dict es ep := d
        cases d'
  generalize argH K s₁.heap A = H at hO hok hS hK noA
  have base_of : ∀ {b : Addr} {o : Obj}, s₁.heap.get? b = some o → H b = none → (hidT s₁.heap H).get? b = some o := fun e n => hidT_get e n
  have nsK : ∀ {b : Addr} {m : Str → Option Value}, s₁.heap.Ns b m → (hidT s₁.heap H).Ns b m := fun {b m} ⟨o, es, ep, e, d, r⟩ => ⟨o, es, ep, base_of e (noA e d), d, r⟩
  have nK : ∀ b o, K.lookup b = some o → H b = none := fun b o e => by
    cases q : H b with
    | none => rfl
    | some u =>
      rw [hK b u q] at e
      cases e
  have hKb : K.In (hidT s₁.heap H) := fun b o e => base_of (KX b o e) (nK b o e)
  have hM : Mod K mg (hidT s₁.heap H) := ⟨hKb, nsK hns, ⟨mb, nsK hb, hbb⟩, let ⟨mc, h1, h2⟩ := hlim; ⟨mc, nsK h1, h2⟩⟩
  have e0 : Env0 P w K mg (hidT s₁.heap H) callerA [] s₁ H := ⟨rfl, hM, fun b o e => of_hidT e, Nat.le_of_eq (hidT_size _ _), trivial, fun b hb => absurd (show b ∈ ([] : List Addr) from hb) (by simp), hok, .of_eq hg⟩
  have hl : vals.length = ps.length := by rw [wellAll_len hwl]; exact hlen
  refine codeAny_mono ((F _ hKb (nsK hns)).run callerA [] s₁ H ⟨vals, []⟩ vals (vals.map toV) _ _ hr e0 (hbind s₁ vals hl) hV (hsp H _ hO hS)) fun r s' x => ?_
  cases r with
  | error e => exact (hCX H e s' x).elim
  | ok fl =>
    cases fl with
    | next => exact False.elim x
    | brk => exact False.elim x
    | cont => exact False.elim x
    | ret u =>
      obtain ⟨v, H', os, bare, un, hok', r', q⟩ := x
      have kept : ∀ b o, s₁.heap.get? b = some o → s'.heap.get? b = some o := fun b o e => by
        cases q2 : H b with
        | none => exact un.keep b o e q2 (by intro z; exact absurd (show b ∈ ([] : List Addr) from z) (by simp)) (by simp)
        | some u2 =>
          rcases hO b with z | ⟨ob, u3, z⟩
          · rw [q2] at z
            cases z
          · have z2 := un.frzs b ob _ z
            obtain ⟨e1, _⟩ := hok b _ z
            obtain ⟨e2, _⟩ := hok' b _ z2
            rw [e] at e1
            cases e1
            exact e2
      have KX' : K.In s'.heap := fun b o e => kept b o (KX b o e)
      obtain ⟨as, hrd⟩ := Dw.reads (R := R) (cl := cl) hok' KX' d0 v u q r'
      exact ⟨u, as, rfl, hrd, OldK.of_keep kept, os, bare⟩
theorem layable_weight {ds : List WData} (h : WData.layableAll ds = true) : ∀ d ∈ ds, d.weight ≤ 1048576 := fun d hd =>
  (PySem.W.layableW_iff.mp (List.all_eq_true.mp h d hd)).2.2
theorem encAll_len : ∀ (cs : List Codec) (a : Codec.denoteAll cs), (Codec.encAll cs a).length = cs.length
  | [], _ => rfl
  | c :: cs, a => by
    show (Codec.encAll cs a.2).length + 1 = cs.length + 1
    rw [encAll_len cs a.2]
theorem walk_spec {r : OpenSpec} {k : Nat} {q : Program} {loose : List Str} {XP : (Str → Option Value) → Heap → Prop} {YP : World → Heap → Prop} {d : DefRec} {K : Params → PySem.W.Frag} {CX : World → CXT} {ps : List Str} {sp : World → Sp}
    (hwell : r.wellSaid = true) (hdf : d.params.defaults = []) (hlen : r.args.length = ps.length) (hr : Room k callerA)
    (hY : ∀ (w : World) (h : Heap), YP w h → (K w.params).In h)
    (F : ∀ (w : World) (mg : Str → Option Value) (fa : Addr) (h : Heap), YP w h → (K w.params).In h → h.Ns mainGlobals mg → mg d.name = some (.ref fa) →
      ∃ fd : FuncData, (∀ (s : Shared) (us : List Value), us.length = ps.length → BindsTo s fd ⟨us, []⟩ (ps.zip us)) ∧
        ∀ base : Heap, (K w.params).In base → base.Ns mainGlobals mg → FnOk r.prog w (K w.params) mg base (CX w) k fa fd ps (sp w))
    (hsp : ∀ (w : World) (H : Hp) (xs : List V) (a : Codec.denoteAll r.args), OnlyF H → Codec.withinAll r.args a = true → Codec.app r.args r.asked a = true → DwAll (K w.params) H xs (Codec.encAll r.args a) →
      sp w xs H (fun v H' => Dw (K w.params) H' v (r.ret.enc (Codec.app r.args r.f a))) fun _ _ _ => False)
    (hCX : ∀ (w : World) (H : Hp) (s : Shared) (e : Value) (s' : Shared), CX w [] H s (fun _ _ _ => False) e s' → False) :
    PySem.W.WalkOS q loose XP YP r d [] (fun f vs => PySem.call f vs) := by
  intro w s_0 s₁ mg mb G Y fa o pm cd doc dV kV ho hd hcd hD hmg hg args vals as hpre hlay hrd hwl hlo
  obtain ⟨a, e1, e2⟩ := PySem.W.os_pre_some hpre
  obtain ⟨e3, hwi⟩ := Codec.encAll_of_decAll r.args args a e1
  subst e3
  have KX := hY w _ Y
  obtain ⟨fd, hb, hF⟩ := F w mg fa _ Y KX G.T.g hmg
  refine PySem.W.enter_call (codeAny_mono (spec_call (R := []) (cl := classAt s_0.heap) (d0 := r.ret.enc (Codec.app r.args r.f a)) KX G.T.g G.T.b G.T.builtins G.T.nolimit hg hwl (pl_encAll _ _) (layable_weight hlay) hr hF hb (by rw [encAll_len]; exact hlen)
    (fun H xs hO hS => hsp w H xs a hO hwi e2 hS) fun H e s' => hCX w H s₁ e s') fun r' s' hq => ?_)
  obtain ⟨u, as', rfl, h1, h2, h3, h4⟩ := hq
  exact ⟨.inl ⟨u, _, as', rfl, fun _ => rfl, h1, (OpenSpec.post_iff hwell hwi _ _).mpr rfl, fun z => Bool.noConfusion (show false = true from z)⟩, h2, h3, h4⟩
theorem walk_specK {r : OpenSpec} {k : Nat} {q : Program} {loose : List Str} {XP : (Str → Option Value) → Heap → Prop} {YP : World → Heap → Prop} {d : DefRec} {K : Params → PySem.W.Frag} {CX : CXT} {ps : List Str} {sp : PySem.W.Frag → Sp}
    (hwell : r.wellSaid = true) (hdf : d.params.defaults = []) (hlen : r.args.length = ps.length) (hr : Room k callerA)
    (hY : ∀ (w : World) (h : Heap), YP w h → (K w.params).In h)
    (F : ∀ (w : World) (mg : Str → Option Value) (fa : Addr) (h : Heap), YP w h → (K w.params).In h → h.Ns mainGlobals mg → mg d.name = some (.ref fa) →
      ∃ fd : FuncData, (∀ (s : Shared) (us : List Value), us.length = ps.length → BindsTo s fd ⟨us, []⟩ (ps.zip us)) ∧
        ∀ base : Heap, (K w.params).In base → base.Ns mainGlobals mg → FnOk r.prog w (K w.params) mg base CX k fa fd ps (sp (K w.params)))
    (hsp : ∀ (K : PySem.W.Frag) (H : Hp) (xs : List V) (a : Codec.denoteAll r.args), OnlyF H → Codec.withinAll r.args a = true → Codec.app r.args r.asked a = true → DwAll K H xs (Codec.encAll r.args a) →
      sp K xs H (fun v H' => Dw K H' v (r.ret.enc (Codec.app r.args r.f a))) fun _ _ _ => False)
    (hCX : ∀ (H : Hp) (s : Shared) (e : Value) (s' : Shared), CX [] H s (fun _ _ _ => False) e s' → False) :
    PySem.W.WalkOS q loose XP YP r d [] (fun f vs => PySem.call f vs) :=
  walk_spec (K := K) (CX := fun _ => CX) (sp := fun w => sp (K w.params)) hwell hdf hlen hr hY F (fun w H xs a h1 h2 h3 h4 => hsp (K w.params) H xs a h1 h2 h3 h4) fun _ H s e s' => hCX H s e s'
end L2
end
end
section
set_option Elab.async false
set_option linter.all false
set_option maxRecDepth 100000
namespace TC
open PySem PySem.Spec PyProof.Rows L2
abbrev vN (l : List Nat) : List V := l.map fun (n : Nat) => V.int (n : Int)
theorem same_new {H : Hp} {p : Addr} {o : HO} (h : H p = Option.none) : Same H (upd H p o) := fun b o' e => by
  rw [upd_ne (ne_of_none e h)]; exact e
theorem same_put {H H' : Hp} {p : Addr} {o : HO} (s : Same H H') (h : H p = Option.none) : Same H (upd H' p o) := fun b o' e => by
  rw [upd_ne (ne_of_none e h)]; exact s b o' e
section
variable {K : PySem.W.Frag} {a b : Addr} {xs ys : List V} {g : TG} {σ : L2.St}
theorem for_zip {tb : TS} {D : Ends} {H : Hp} (n : Nat) (hn : n = min xs.length ys.length) (Pv : Nat → L2.St → Hp → Prop) (h0 : Pv 0 σ H) (hl : ∀ i σ H, i ≤ n → Pv i σ H → SqL K H a xs ∧ SqL K H b ys)
    (hs : ∀ i x y σ H T, xs[i]? = some x → ys[i]? = some y → H T = Option.none → Pv i σ H → g (.ref T) σ (upd H T (.tup [x, y])) fun σ2 H2 => tb { D with nx := Pv (i + 1), ct := Pv (i + 1), bk := D.nx } σ2 H2) (hd : ∀ σ H, Pv n σ H → D.nx σ H) :
    ∃ W : Nat → Nat → L2.St → Hp → Prop, (∃ m, W 0 m σ H) ∧ ∀ i m σ H, W i m σ H →
      ((Itz K a b).stop i H ∧ D.nx σ H) ∨ ((Itz K a b).go i H ∧ ∃ N : L2.St → Hp → Prop, (∀ σ' H', N σ' H' → ∃ m', m' < m ∧ W (i + 1) m' σ' H') ∧ ∀ x H', (Itz K a b).yld i H x H' → g x σ H' fun σ2 H2 => tb { D with nx := N, ct := N, bk := D.nx } σ2 H2) := by
  refine ⟨fun i m σ H => m = n - i ∧ i ≤ n ∧ Pv i σ H, ⟨n, by simp, Nat.zero_le _, h0⟩, ?_⟩
  rintro i m σ H ⟨rfl, hi, p⟩
  obtain ⟨q1, q2⟩ := hl i σ H hi p
  by_cases hlt : i < n
  · have hx : i < xs.length := by omega
    have hy : i < ys.length := by omega
    refine .inr ⟨⟨xs, ys, xs[i], ys[i], q1, q2, by simp [hx], by simp [hy]⟩, Pv (i + 1), fun σ' H' p' => ⟨n - (i + 1), by omega, rfl, hlt, p'⟩, fun v H' y => ?_⟩
    obtain ⟨T, x, y', rfl, hT, rfl, h1, h2⟩ := y
    exact hs i x y' σ H T (h1 xs q1) (h2 ys q2) hT p
  · have e : i = n := by omega
    subst e
    exact .inl ⟨⟨xs, ys, q1, q2, by omega⟩, hd σ H p⟩
theorem lc_zip {tt : TT} {te : TE} {vs : List Nat} {H1 : Hp} {D : Addr} {Qd : Hp → Prop} (n : Nat) (hn : n = min xs.length ys.length) (Pv : Nat → Hp → Prop) (h0 : Pv 0 (upd H1 D (.lst []))) (hl : ∀ i H, i ≤ n → Pv i H → SqL K H a xs ∧ SqL K H b ys)
    (hs : ∀ i x y H T, xs[i]? = some x → ys[i]? = some y → H T = Option.none → Pv i H → g (.ref T) (wipe σ vs) (upd H T (.tup [x, y])) fun σ2 H2 => wipe σ2 vs = wipe σ vs ∧ tt σ2 H2 fun b H3 =>
      if b = true then te σ2 H3 fun y H4 => ∃ acc, H4 D = some (.lst acc) ∧ acc.length < sizeLine ∧ Pv (i + 1) (upd H4 D (.lst (acc ++ [y]))) else Pv (i + 1) H3) (hd : ∀ H, Pv n H → Qd H) :
    ∃ W : Nat → Nat → Hp → Prop, (∃ m, W 0 m (upd H1 D (.lst []))) ∧ ∀ i m H, W i m H →
      ((Itz K a b).stop i H ∧ Qd H) ∨ ((Itz K a b).go i H ∧ ∃ Nx : Hp → Prop, (∀ H', Nx H' → ∃ m', m' < m ∧ W (i + 1) m' H') ∧ ∀ x H', (Itz K a b).yld i H x H' → g x (wipe σ vs) H' fun σ2 H2 => wipe σ2 vs = wipe σ vs ∧ tt σ2 H2 fun b H3 =>
        if b = true then te σ2 H3 fun y H4 => ∃ acc, H4 D = some (.lst acc) ∧ acc.length < sizeLine ∧ Nx (upd H4 D (.lst (acc ++ [y]))) else Nx H3) := by
  refine ⟨fun i m H => m = n - i ∧ i ≤ n ∧ Pv i H, ⟨n, by simp, Nat.zero_le _, h0⟩, ?_⟩
  rintro i m H ⟨rfl, hi, p⟩
  obtain ⟨q1, q2⟩ := hl i H hi p
  by_cases hlt : i < n
  · have hx : i < xs.length := by omega
    have hy : i < ys.length := by omega
    refine .inr ⟨⟨xs, ys, xs[i], ys[i], q1, q2, by simp [hx], by simp [hy]⟩, Pv (i + 1), fun H' p' => ⟨n - (i + 1), by omega, rfl, hlt, p'⟩, fun v H' y => ?_⟩
    obtain ⟨T, x, y', rfl, hT, rfl, h1, h2⟩ := y
    exact hs i x y' H T (h1 xs q1) (h2 ys q2) hT p
  · have e : i = n := by omega
    subst e
    exact .inl ⟨⟨xs, ys, q1, q2, by omega⟩, hd H p⟩
theorem for_enum {tb : TS} {D : Ends} {H : Hp} (Pv : Nat → L2.St → Hp → Prop) (h0 : Pv 0 σ H) (hl : ∀ i σ H, i ≤ xs.length → Pv i σ H → SqL K H a xs)
    (hs : ∀ i x σ H T, xs[i]? = some x → H T = Option.none → Pv i σ H → g (.ref T) σ (upd H T (.tup [.int (i : Nat), x])) fun σ2 H2 => tb { D with nx := Pv (i + 1), ct := Pv (i + 1), bk := D.nx } σ2 H2) (hd : ∀ σ H, Pv xs.length σ H → D.nx σ H) :
    ∃ W : Nat → Nat → L2.St → Hp → Prop, (∃ m, W 0 m σ H) ∧ ∀ i m σ H, W i m σ H →
      ((Ite K a).stop i H ∧ D.nx σ H) ∨ ((Ite K a).go i H ∧ ∃ N : L2.St → Hp → Prop, (∀ σ' H', N σ' H' → ∃ m', m' < m ∧ W (i + 1) m' σ' H') ∧ ∀ x H', (Ite K a).yld i H x H' → g x σ H' fun σ2 H2 => tb { D with nx := N, ct := N, bk := D.nx } σ2 H2) := by
  refine ⟨fun i m σ H => m = xs.length - i ∧ i ≤ xs.length ∧ Pv i σ H, ⟨xs.length, by simp, Nat.zero_le _, h0⟩, ?_⟩
  rintro i m σ H ⟨rfl, hi, p⟩
  have q := hl i σ H hi p
  by_cases hlt : i < xs.length
  · refine .inr ⟨⟨xs, xs[i], q, by simp [hlt]⟩, Pv (i + 1), fun σ' H' p' => ⟨xs.length - (i + 1), by omega, rfl, hlt, p'⟩, fun v H' y => ?_⟩
    obtain ⟨T, x, rfl, hT, rfl, h1⟩ := y
    exact hs i x σ H T (h1 xs q) hT p
  · have e : i = xs.length := by omega
    subst e
    exact .inl ⟨⟨xs, q, Nat.le_refl _⟩, hd σ H p⟩
end
section
variable {K : PySem.W.Frag} {a b : Addr} {g : TG} {σ : L2.St} {te : TE} {vs : List Nat} {H1 : Hp} {D : Addr} {Qd : Hp → Prop}
theorem take_snoc' {α : Type} {l : List α} {i : Nat} {x : α} (h : l[i]? = some x) : l.take (i + 1) = l.take i ++ [x] := by
  rw [List.take_add_one, h]; rfl
theorem getElem?_map_some {α β : Type} {f : α → β} {l : List α} {i : Nat} {y : β} (h : (l.map f)[i]? = some y) : ∃ x, l[i]? = some x ∧ y = f x := by
  rw [List.getElem?_map] at h
  cases e : l[i]? with
  | none => rw [e] at h; cases h
  | some x => rw [e] at h; exact ⟨x, rfl, (Option.some.inj h).symm⟩
theorem lc_zipP {α β : Type} {ea : α → V} {eb : β → V} {as : List α} {bs : List β} (f : α → β → V) (hD : H1 D = Option.none) (ha : SqL K H1 a (as.map ea)) (hb : SqL K H1 b (bs.map eb)) (hsz : as.length ≤ sizeLine)
    (hs : ∀ (x : α) (y : β) (H : Hp) (T : Addr) (R : L2.St → Hp → Prop), x ∈ as → y ∈ bs → Same H1 H → H T = some (.tup [ea x, eb y]) → (∀ σ2, wipe σ2 vs = wipe σ vs → (∀ Q : VK, Q (f x y) H → te σ2 H Q) → R σ2 H) → g (.ref T) (wipe σ vs) H R)
    (hd : ∀ H, Same H1 H → H D = some (.lst (List.zipWith f as bs)) → Qd H) :
    ∃ W : Nat → Nat → Hp → Prop, (∃ m, W 0 m (upd H1 D (.lst []))) ∧ ∀ i m H, W i m H →
      ((Itz K a b).stop i H ∧ Qd H) ∨ ((Itz K a b).go i H ∧ ∃ Nx : Hp → Prop, (∀ H', Nx H' → ∃ m', m' < m ∧ W (i + 1) m' H') ∧ ∀ x H', (Itz K a b).yld i H x H' → g x (wipe σ vs) H' fun σ2 H2 => wipe σ2 vs = wipe σ vs ∧ tYes σ2 H2 fun b H3 =>
        if b = true then te σ2 H3 fun y H4 => ∃ acc, H4 D = some (.lst acc) ∧ acc.length < sizeLine ∧ Nx (upd H4 D (.lst (acc ++ [y]))) else Nx H3) := by
  refine lc_zip (xs := as.map ea) (ys := bs.map eb) (List.zipWith f as bs).length (by rw [List.length_zipWith, List.length_map, List.length_map]) (fun i H => Same H1 H ∧ H D = some (.lst ((List.zipWith f as bs).take i))) ⟨same_new hD, upd_same⟩ (fun i H _ ⟨s, _⟩ => ⟨s.seq ha, s.seq hb⟩) ?_ (fun H ⟨s, e⟩ => hd H s (by rw [List.take_length] at e; exact e))
  intro i x y H T hx hy hT ⟨s, e⟩
  obtain ⟨x, hx', rfl⟩ := getElem?_map_some hx
  obtain ⟨y, hy', rfl⟩ := getElem?_map_some hy
  have sT : Same H1 (upd H T (.tup [ea x, eb y])) := fun b' o q => by rw [upd_ne (ne_of_none (s _ _ q) hT)]; exact s _ _ q
  have dT : D ≠ T := ne_of_none e hT
  refine hs x y _ T _ (List.mem_of_getElem? hx') (List.mem_of_getElem? hy') sT upd_same fun σ2 hw k => ⟨hw, ?_⟩
  unfold tYes
  dsimp only
  rw [if_pos rfl]
  refine k _ ⟨_, by rw [upd_ne dT]; exact e, ?_, same_put sT hD, ?_⟩
  · rw [List.length_take]
    have : i < as.length := (List.getElem?_eq_some_iff.mp hx').1
    omega
  · rw [upd_same, take_snoc' (x := f x y) (by rw [List.getElem?_zipWith, hx', hy'])]
theorem lc_listP {α : Type} {ea : α → V} {as : List α} (f : α → V) (hD : H1 D = Option.none) (ha : SqL K H1 a (as.map ea)) (hsz : as.length ≤ sizeLine)
    (hs : ∀ (x : α) (H : Hp) (R : L2.St → Hp → Prop), x ∈ as → Same H1 H → (∀ σ2, wipe σ2 vs = wipe σ vs → (∀ Q : VK, Q (f x) H → te σ2 H Q) → R σ2 H) → g (ea x) (wipe σ vs) H R)
    (hd : ∀ H, Same H1 H → H D = some (.lst (as.map f)) → Qd H) :
    ∃ W : Nat → Nat → Hp → Prop, (∃ m, W 0 m (upd H1 D (.lst []))) ∧ ∀ i m H, W i m H →
      ((Itl K a).stop i H ∧ Qd H) ∨ ((Itl K a).go i H ∧ ∃ Nx : Hp → Prop, (∀ H', Nx H' → ∃ m', m' < m ∧ W (i + 1) m' H') ∧ ∀ x H', (Itl K a).yld i H x H' → g x (wipe σ vs) H' fun σ2 H2 => wipe σ2 vs = wipe σ vs ∧ tYes σ2 H2 fun b H3 =>
        if b = true then te σ2 H3 fun y H4 => ∃ acc, H4 D = some (.lst acc) ∧ acc.length < sizeLine ∧ Nx (upd H4 D (.lst (acc ++ [y]))) else Nx H3) := by
  refine lc_list (xs := as.map ea) (fun i H => Same H1 H ∧ H D = some (.lst ((as.map f).take i))) ⟨same_new hD, upd_same⟩ (fun i H _ ⟨s, _⟩ => s.seq ha) ?_ (fun H ⟨s, e⟩ => hd H s (by rw [List.length_map, List.take_of_length_le (by rw [List.length_map]; exact Nat.le_refl _)] at e; exact e))
  intro i x H hx ⟨s, e⟩
  obtain ⟨x, hx', rfl⟩ := getElem?_map_some hx
  refine hs x H _ (List.mem_of_getElem? hx') s fun σ2 hw k => ⟨hw, ?_⟩
  unfold tYes
  dsimp only
  rw [if_pos rfl]
  refine k _ ⟨_, e, ?_, same_put s hD, ?_⟩
  · rw [List.length_take]
    have : i < as.length := (List.getElem?_eq_some_iff.mp hx').1
    omega
  · rw [upd_same, take_snoc' (x := f x) (by rw [List.getElem?_map, hx']; rfl)]
end
theorem bit_test (m i : Nat) : (Builtin.bitAnd ((m : Int) / 2 ^ ((i : Nat) : Int).toNat) 1 != 0) = m.testBit i := by
  rw [Int.toNat_natCast, bitAnd_m1, Nat.testBit_eq_decide_div_mod_eq]
  have e : ((m : Int) / 2 ^ i % 2) = ((m / 2 ^ i % 2 : Nat) : Int) := by
    rw [show (2 : Int) ^ i = ((2 ^ i : Nat) : Int) by rw [Int.natCast_pow]; rfl, ← Int.natCast_ediv]
    rfl
  rw [e]
  rcases Nat.mod_two_eq_zero_or_one (m / 2 ^ i) with h | h <;> rw [h] <;> rfl
structure CalleeOk (X : Cx) (f : Addr) (sp : Sp) : Prop where
  ex : ∃ (k : Nat) (fd : FuncData) (ps : List Str), FnOk X.prog X.w X.K X.mg X.base CX0 k f fd ps sp ∧ Room k X.A ∧ Binds X.K fd ps []
  kp : PySem.W.keepIn X.K (.ref f) = true
def tCallC (tab : List (Addr × Sp)) (tf : TE) (t : TA) : TE := fun σ H Q => tf σ H fun x H1 => ∃ (f : Addr) (sp : Sp), x = .ref f ∧ (f, sp) ∈ tab ∧ t σ H1 fun vs H2 => sp vs H2 Q E0
theorem pe_callC {X : Cx} {func e : Expr} {es : List Expr} {pos : Pos} {tf : TE} {t : TA} (tab : List (Addr × Sp)) (ok : ∀ p ∈ tab, CalleeOk X p.1 p.2) (hf : PE X func tf) (ha : PA X (e :: es) t)
    (hst : starEach (e :: es) X.env = (false, eval e X.env) :: starEach es X.env := by rfl) (hpl : (backTo pos (starEach es X.env)).any (·.1) = false := by rfl)
    (he : eval (.Call func (e :: es) [] pos) X.env = (do callWith pos (← eval func X.env) [] (backTo pos (starEach (e :: es) X.env)) (backToKw pos (keywordEach [] X.env))) := by rfl) :
    PE X (.Call func (e :: es) [] pos) (tCallC tab tf t) := by
  intro pins s σ H Q I h
  refine Call_ (thn (hf pins s σ H _ I h) fun u s1 ⟨x, H1, I1, rx, f, sp, ex, mem, q⟩ => ?_) he
  subst ex
  obtain rfl : u = Value.ref f := rx
  have c := ok _ mem
  obtain ⟨k, fd, ps, F, hr, hb⟩ := c.ex
  refine PySem.W.callWith_K (first := []) (h₀ := X.base) I.ok.mod.kin c.kp (thn (ha pos pins s1 σ H1 _ I1 q) fun us s2 ⟨vs, H2, I2, r, q2⟩ => ⟨I2.kIn, ?_⟩) hst hpl
  exact run_fn (ds := []) (dvs := []) (E := E0) F hr hb .nil pass0 I2 r (by rw [List.append_nil]; exact q2)
end TC
end
section
set_option linter.all false
namespace TC
open Sx07
def enc (x : Int × List Int) : List Int := x.1 :: (x.2.length : Int) :: (x.2 ++ [0])
theorem call_enc {l t : List Int} {c : List (List Int)} (h : PyWide.call l = some (c, t)) (hc : c.length = 1) : ∃ x : Int × List Int, c = [x.1 :: x.2] ∧ l = enc x ++ t := by
  match l, h with
  | [], h => simp [PyWide.call] at h
  | [p], h => simp [PyWide.call, PyFlat.row] at h
  | p :: n :: r, h =>
    unfold PyWide.call PyFlat.row at h
    by_cases hn : 0 ≤ n ∧ n.toNat ≤ r.length
    · simp only [hn, and_self, if_true] at h
      match hd : r.drop n.toNat, h with
      | [], h => simp [hd] at h
      | k :: u, h =>
        simp only [hd] at h
        by_cases hk : 0 ≤ k
        · simp only [hk, if_true] at h
          match hr : PyFlat.rows k.toNat u, h with
          | none, h => simp [hr] at h
          | some (xs, v), h =>
            simp only [hr, Option.some.injEq, Prod.mk.injEq] at h
            obtain ⟨h1, h2⟩ := h
            subst h1 h2
            have hx : xs = [] := by
              cases xs with
              | nil => rfl
              | cons a b => simp at hc
            subst hx
            have hk0 : k.toNat = 0 := by
              cases e : k.toNat with
              | zero => rfl
              | succ m =>
                rw [e] at hr
                unfold PyFlat.rows at hr
                split at hr
                · cases hr
                · split at hr
                  · cases hr
                  · simp at hr
            have hk1 : k = 0 := by omega
            rw [hk0] at hr
            unfold PyFlat.rows at hr
            simp only [Option.some.injEq, Prod.mk.injEq, true_and] at hr
            subst hr hk1
            refine ⟨(p, r.take n.toNat), rfl, ?_⟩
            have hl : (r.take n.toNat).length = n.toNat := by rw [List.length_take]; omega
            have e1 : r = r.take n.toNat ++ 0 :: u := by rw [← hd]; exact (List.take_append_drop _ _).symm
            show p :: n :: r = (p :: ((r.take n.toNat).length : Int) :: (r.take n.toNat ++ [0])) ++ u
            rw [hl, Int.toNat_of_nonneg hn.1, List.cons_append, List.cons_append, List.append_assoc, List.singleton_append, ← e1]
        · simp [hk] at h
    · simp only [hn, if_false] at h
      cases h
theorem calls_enc : ∀ (f : Nat) (l : List Int) (cs : List (List (List Int))), PyWide.calls f l = some cs → (∀ c ∈ cs, c.length = 1) → ∃ xs : List (Int × List Int), cs = xs.map (fun x => [x.1 :: x.2]) ∧ l = xs.flatMap enc
  | f, [], cs, h, _ => by
    have e : cs = [] := by cases f <;> (unfold PyWide.calls at h; exact (Option.some.inj h).symm)
    exact ⟨[], by rw [e]; rfl, rfl⟩
  | 0, _ :: _, cs, h, _ => by simp [PyWide.calls] at h
  | f + 1, p :: r, cs, h, hc => by
    unfold PyWide.calls at h
    split at h
    · cases h
    · rename_i c t e
      split at h
      · cases h
      · rename_i cs' e'
        simp only [Option.some.injEq] at h
        subst h
        obtain ⟨x, h1, h2⟩ := call_enc e (hc _ (List.mem_cons_self ..))
        obtain ⟨xs, h3, h4⟩ := calls_enc f t cs' e' fun c hc' => hc c (List.mem_cons_of_mem _ hc')
        exact ⟨x :: xs, by rw [h1, h3]; rfl, by rw [h2, h4]; rfl⟩
structure Asked1 (x : Int × List Int) : Prop where
  nn : ∀ z ∈ x.1 :: x.2, 0 ≤ z ∧ z < 4294967296
  len : x.2.length ≤ 99
  is : ∃ c, Sx07Neutral.callOf (x.1 :: x.2) = some c
theorem asked_calls {l : List Int} (h : PySx07.answers_asked l = true) : ∃ xs : List (Int × List Int), l = xs.flatMap enc ∧ (∀ x ∈ xs, Asked1 x) ∧ xs.length ≤ 60 ∧
    PySx07.answers l = PyFlat.told (PyFlat.played Sx07Neutral.step Sx07Neutral.start (xs.map fun x => [x.1 :: x.2])) ∧ ((Sx07Neutral.answers Sx07Neutral.start (xs.map fun x => [x.1 :: x.2])).map List.length).sum < 1000000 := by
  unfold PySx07.answers_asked at h
  unfold PySx07.answers
  match e : PySx07.calls l, h with
  | none, h => simp [e] at h
  | some cs, h =>
    simp only [e, Bool.and_eq_true, PyFlat.atMost, decide_eq_true_eq, Sx07Neutral.asked] at h
    obtain ⟨h1, _, _, h2, h3⟩ := h
    have h4 : ∀ c ∈ cs, Sx07Neutral.asked1 c = true := List.all_eq_true.mp h2
    obtain ⟨xs, h5, h6⟩ := calls_enc _ l cs e fun c hc => by
      have := h4 c hc
      unfold Sx07Neutral.asked1 at this
      simp only [Bool.and_eq_true, beq_iff_eq] at this
      exact this.1
    subst h5
    refine ⟨xs, h6, fun x hx => ?_, by rw [List.length_map] at h1; exact h1, rfl, h3⟩
    have := h4 [x.1 :: x.2] (List.mem_map.mpr ⟨x, hx, rfl⟩)
    unfold Sx07Neutral.asked1 at this
    simp only [Bool.and_eq_true, beq_iff_eq, List.headD_cons, List.all_eq_true, decide_eq_true_eq, List.length_cons] at this
    have hl := this.2.2.1
    exact ⟨this.2.1, Nat.le_of_succ_le_succ (of_decide_eq_true hl), Option.isSome_iff_exists.mp this.2.2.2⟩
end TC
end
section
set_option linter.all false
namespace TC
open Sx07
theorem plus_length {a b : Counts} {k : Nat} (ha : a.length = k) (hb : b.length = k) : (plus a b).length = k := by
  unfold plus
  rw [List.length_zipWith, ha, hb, Nat.min_self]
def wfrom (m : Mask) : Nat → List Counts → Counts → Counts
  | _, [], c => c
  | i, p :: r, c => wfrom m (i + 1) r (if m.testBit i then plus c p else c)
theorem wfrom_eq (m : Mask) : ∀ (l : List Counts) (i : Nat) (c : Counts), ((l.zipIdx i).filter fun x => m.testBit x.2).foldl (fun (c : Counts) x => plus c x.1) c = wfrom m i l c
  | [], _, _ => rfl
  | p :: r, i, c => by
    rw [List.zipIdx_cons, List.filter_cons, wfrom]
    by_cases h : m.testBit i = true
    · rw [if_pos h, List.foldl_cons, if_pos h]
      exact wfrom_eq m r (i + 1) _
    · rw [if_neg h, if_neg h]
      exact wfrom_eq m r (i + 1) _
theorem wants_eq (k : Nat) (pages : List Counts) (m : Mask) : wants k pages m = wfrom m 0 pages (zeros k) := wfrom_eq m pages 0 (zeros k)
theorem wfrom_length {m : Mask} {k : Nat} : ∀ {l : List Counts} {i : Nat} {c : Counts}, c.length = k → (∀ p ∈ l, p.length = k) → (wfrom m i l c).length = k
  | [], _, _, hc, _ => hc
  | p :: r, i, c, hc, hl => by
    rw [wfrom]
    refine wfrom_length ?_ fun q hq => hl q (List.mem_cons_of_mem _ hq)
    split
    · exact plus_length hc (hl p (List.mem_cons_self ..))
    · exact hc
theorem wants_length {k : Nat} {pages : List Counts} {m : Mask} (h : ∀ p ∈ pages, p.length = k) : (wants k pages m).length = k := by
  rw [wants_eq]
  exact wfrom_length (by unfold zeros; rw [List.length_replicate]) h
theorem wfrom_append (m : Mask) : ∀ (l r : List Counts) (i : Nat) (c : Counts), wfrom m i (l ++ r) c = wfrom m (i + l.length) r (wfrom m i l c)
  | [], r, i, c => rfl
  | p :: l, r, i, c => by
    rw [List.cons_append, wfrom, wfrom, wfrom_append m l r, List.length_cons]
    congr 1
    omega
theorem wfrom_congr {m n : Mask} : ∀ {l : List Counts} {i : Nat} {c : Counts}, (∀ j, i ≤ j → j < i + l.length → m.testBit j = n.testBit j) → wfrom m i l c = wfrom n i l c
  | [], _, _, _ => rfl
  | p :: r, i, c, h => by
    rw [wfrom, wfrom, h i (Nat.le_refl _) (by rw [List.length_cons]; omega)]
    exact wfrom_congr fun j h1 h2 => h j (by omega) (by rw [List.length_cons]; omega)
theorem plus_getD (a b : Counts) (j : Nat) (h : a.length = b.length) : (plus a b).getD j 0 = a.getD j 0 + b.getD j 0 := by
  unfold plus
  rw [List.getD_eq_getElem?_getD, List.getD_eq_getElem?_getD, List.getD_eq_getElem?_getD, List.getElem?_zipWith]
  by_cases hj : j < a.length
  · rw [List.getElem?_eq_getElem hj, List.getElem?_eq_getElem (h ▸ hj)]
    rfl
  · rw [List.getElem?_eq_none (by omega), List.getElem?_eq_none (by omega)]
    rfl
def need (m : Mask) (j : Nat) : Nat → List Counts → Nat
  | _, [] => 0
  | i, p :: r => (if m.testBit i then p.getD j 0 else 0) + need m j (i + 1) r
theorem wfrom_getD {m : Mask} {k j : Nat} : ∀ {l : List Counts} {i : Nat} {c : Counts}, c.length = k → (∀ p ∈ l, p.length = k) → (wfrom m i l c).getD j 0 = c.getD j 0 + need m j i l
  | [], _, c, _, _ => by rw [wfrom, need]; rfl
  | p :: r, i, c, hc, hl => by
    have hp := hl p (List.mem_cons_self ..)
    have hr := fun q hq => hl q (List.mem_cons_of_mem p hq)
    rw [wfrom, need]
    split
    · rw [wfrom_getD (plus_length hc hp) hr, plus_getD _ _ _ (hc.trans hp.symm)]
      omega
    · rw [wfrom_getD hc hr]
      omega
theorem zeros_getD (k j : Nat) : (zeros k).getD j 0 = 0 := by
  unfold zeros
  rw [List.getD_eq_getElem?_getD, List.getElem?_replicate]
  split <;> rfl
theorem wants_getD {k j : Nat} {pages : List Counts} {m : Mask} (h : ∀ p ∈ pages, p.length = k) : (wants k pages m).getD j 0 = need m j 0 pages := by
  rw [wants_eq, wfrom_getD (by unfold zeros; rw [List.length_replicate]) h, zeros_getD, Nat.zero_add]
theorem need_append (m : Mask) (j : Nat) : ∀ (l r : List Counts) (i : Nat), need m j i (l ++ r) = need m j i l + need m j (i + l.length) r
  | [], r, i => by rw [List.nil_append, need, List.length_nil, Nat.zero_add]; rfl
  | p :: l, r, i => by
    rw [List.cons_append, need, need, need_append m j l r, List.length_cons, show i + 1 + l.length = i + (l.length + 1) by omega, Nat.add_assoc]
theorem need_mono {m n : Mask} {j : Nat} : ∀ {l : List Counts} {i : Nat}, (∀ b, i ≤ b → m.testBit b = true → n.testBit b = true) → need m j i l ≤ need n j i l
  | [], _, _ => Nat.le_refl _
  | p :: r, i, h => by
    rw [need, need]
    have h2 := need_mono (j := j) (l := r) (i := i + 1) fun b hb => h b (by omega)
    by_cases hb : m.testBit i = true
    · rw [if_pos hb, if_pos (h i (Nat.le_refl _) hb)]
      omega
    · rw [if_neg hb]
      omega
theorem fits_iff {case_ : Counts} {pages : List Counts} {m : Mask} (h : ∀ p ∈ pages, p.length = case_.length) : fits case_ pages m = true ↔ ∀ j, j < case_.length → need m j 0 pages ≤ case_.getD j 0 := by
  unfold fits lacks
  have hw := wants_length (m := m) h
  rw [List.all_eq_true]
  constructor
  · intro q j hj
    have h1 : (List.zipWith (fun (h w : Nat) => w - h) case_ (wants case_.length pages m))[j]? = some ((wants case_.length pages m).getD j 0 - case_.getD j 0) := by
      rw [List.getElem?_zipWith, List.getElem?_eq_getElem hj, List.getElem?_eq_getElem (by omega), List.getD_eq_getElem?_getD, List.getD_eq_getElem?_getD, List.getElem?_eq_getElem hj, List.getElem?_eq_getElem (by omega)]
      rfl
    have h2 := q _ (List.mem_of_getElem? h1)
    rw [wants_getD h] at h2
    have := eq_of_beq h2
    omega
  · intro q x hx
    obtain ⟨j, hj⟩ := List.mem_iff_getElem?.mp hx
    rw [List.getElem?_zipWith] at hj
    by_cases hl : j < case_.length
    · rw [List.getElem?_eq_getElem hl, List.getElem?_eq_getElem (show j < (wants case_.length pages m).length by omega)] at hj
      have e := Option.some.inj hj
      have h1 := q j hl
      rw [← wants_getD h, List.getD_eq_getElem?_getD, List.getD_eq_getElem?_getD, List.getElem?_eq_getElem hl, List.getElem?_eq_getElem (show j < (wants case_.length pages m).length by omega)] at h1
      simp only [Option.getD_some] at h1
      rw [← e]
      exact beq_iff_eq.mpr (by omega)
    · rw [List.getElem?_eq_none (by omega)] at hj
      cases hj
structure Good (s : St) : Prop where
  letters : s.case_.length ≤ 32
  most : ∀ x ∈ s.case_, x ≤ 65535
  few : s.pages.length ≤ 8
  like : ∀ p ∈ s.pages, p.length = s.case_.length
  pmost : ∀ p ∈ s.pages, ∀ x ∈ p, x ≤ 65535
  bare : s.case_ = [] → s.pages = []
  mask : s.standing < 2 ^ s.pages.length
  stand : fits s.case_ s.pages s.standing = true
theorem good_init : Good Sx07.init := ⟨by decide, by simp [init], by decide, by simp [init], by simp [init], fun _ => rfl, by decide, by decide⟩
theorem testBit_high {m n b : Nat} (h : m < 2 ^ n) (hb : n ≤ b) : m.testBit b = false := Nat.testBit_lt_two_pow (Nat.lt_of_lt_of_le h (Nat.pow_le_pow_right (by decide) hb))
theorem and_add_or (m : Nat) : ∀ n : Nat, (m &&& n) + (m ||| n) = m + n := by
  induction m using Nat.strongRecOn with
  | _ m ih =>
    intro n
    by_cases h0 : m = 0
    · subst h0
      simp
    · have ih' := ih (m / 2) (by omega) (n / 2)
      rw [← Nat.or_div_two, ← Nat.and_div_two] at ih'
      have o1 := @Nat.or_mod_two_eq_one m n
      have a1 := @Nat.and_mod_two_eq_one m n
      omega
theorem add_or {m i : Nat} (h : m.testBit i = false) : m + 2 ^ i = m ||| 2 ^ i := by
  have h1 : m &&& 2 ^ i = 0 := by
    apply Nat.eq_of_testBit_eq
    intro b
    rw [Nat.testBit_and, Nat.testBit_two_pow, Nat.zero_testBit]
    by_cases e : i = b
    · subst e; simp [h]
    · simp [e]
  have h2 := and_add_or m (2 ^ i)
  omega
theorem testBit_add {m i b : Nat} (h : m.testBit i = false) : (m + 2 ^ i).testBit b = (m.testBit b || decide (i = b)) := by
  rw [add_or h, Nat.testBit_or, Nat.testBit_two_pow]
theorem two_pow_le {m i : Nat} (h : m.testBit i = true) : 2 ^ i ≤ m := Nat.ge_two_pow_of_testBit h
theorem sub_xor {m i : Nat} (h : m.testBit i = true) : m - 2 ^ i = m ^^^ 2 ^ i := by
  have h0 : (m ^^^ 2 ^ i).testBit i = false := by rw [Nat.testBit_xor, h, Nat.testBit_two_pow]; simp
  have h1 := add_or h0
  have h2 : (m ^^^ 2 ^ i) ||| 2 ^ i = m := by
    apply Nat.eq_of_testBit_eq
    intro b
    rw [Nat.testBit_or, Nat.testBit_xor, Nat.testBit_two_pow]
    by_cases e : i = b
    · subst e; simp [h]
    · simp [e]
  omega
theorem testBit_sub {m i b : Nat} (h : m.testBit i = true) : (m - 2 ^ i).testBit b = (m.testBit b && !decide (i = b)) := by
  rw [sub_xor h, Nat.testBit_xor, Nat.testBit_two_pow]
  by_cases e : i = b
  · subst e; simp [h]
  · simp [e]
theorem lt_of_bits {m n : Nat} (h : ∀ b, m.testBit b = true → b < n) : m < 2 ^ n := Nat.lt_pow_two_of_testBit m fun i hi => by
  cases e : m.testBit i with
  | false => rfl
  | true => have := h i e; omega
theorem bit_lt {m n b : Nat} (h : m < 2 ^ n) (hb : m.testBit b = true) : b < n := by
  apply Nat.lt_of_not_le
  intro hn
  rw [testBit_high h hn] at hb
  cases hb
theorem need_zero {j : Nat} : ∀ {l : List Counts} {i : Nat}, need 0 j i l = 0
  | [], _ => rfl
  | p :: r, i => by rw [need, need_zero, Nat.zero_testBit]; rfl
theorem countsOk_iff {c : Counts} : countsOk c = true ↔ ∀ x ∈ c, x ≤ 65535 := by
  unfold countsOk
  rw [List.all_eq_true]
  exact ⟨fun h x hx => of_decide_eq_true (h x hx), fun h x hx => decide_eq_true (h x hx)⟩
theorem fits_zero {case_ : Counts} {pages : List Counts} (h : ∀ p ∈ pages, p.length = case_.length) : fits case_ pages 0 = true := (fits_iff h).mpr fun j _ => by rw [need_zero]; exact Nat.zero_le _
theorem good_step {s : St} (g : Good s) (c : Call) : Good (Sx07.step s c).1 := by
  cases c with
  | begins c =>
    unfold Sx07.step
    dsimp only
    split
    · exact g
    · rename_i h
      rw [Bool.not_eq_false, Bool.and_eq_true, Bool.and_eq_true, decide_eq_true_eq, decide_eq_true_eq, countsOk_iff] at h
      exact ⟨h.2.1, h.2.2, Nat.zero_le _, fun p hp => (by cases hp), fun p hp => (by cases hp), fun _ => rfl, (by show 0 < 2 ^ 0; decide), fits_zero fun p hp => (by cases hp)⟩
  | page c =>
    unfold Sx07.step
    dsimp only
    split
    · exact g
    · rename_i h
      rw [Bool.not_eq_false, Bool.and_eq_true, Bool.and_eq_true, decide_eq_true_eq, beq_iff_eq, countsOk_iff] at h
      split
      · exact g
      · rename_i h8
        have h8' : s.pages.length < 8 := Nat.lt_of_not_le h8
        have hl : ∀ p ∈ s.pages ++ [c], p.length = s.case_.length := fun p hp => by
          rcases List.mem_append.mp hp with hp | hp
          · exact g.like p hp
          · rw [List.mem_singleton.mp hp]; exact h.2.1
        refine ⟨g.letters, g.most, ?_, hl, fun p hp => ?_, fun e => ?_, ?_, ?_⟩
        · show (s.pages ++ [c]).length ≤ 8
          rw [List.length_append, List.length_singleton]; omega
        · rcases List.mem_append.mp hp with hp | hp
          · exact g.pmost p hp
          · rw [List.mem_singleton.mp hp]; exact h.2.2
        · have e' : s.case_ = [] := e
          rw [e'] at h
          exact absurd h.1 (by rw [h.2.1]; decide)
        · show s.standing < 2 ^ (s.pages ++ [c]).length
          rw [List.length_append]
          exact Nat.lt_of_lt_of_le g.mask (Nat.pow_le_pow_right (by decide) (Nat.le_add_right _ _))
        · refine (fits_iff hl).mpr fun j hj => ?_
          rw [need_append, Nat.zero_add]
          have h0 : need s.standing j s.pages.length [c] = 0 := by
            rw [need, testBit_high g.mask (Nat.le_refl _)]
            rfl
          rw [h0]
          exact (fits_iff g.like).mp g.stand j hj
  | buy k n =>
    unfold Sx07.step
    dsimp only
    split
    · exact g
    · rename_i hk
      split
      · exact g
      · rename_i hn
        have hk' : k < s.case_.length := Nat.lt_of_not_le hk
        have hn' : s.case_.getD k 0 + n ≤ 65535 := Nat.le_of_not_lt hn
        have hl : ∀ p ∈ s.pages, p.length = (s.case_.set k (s.case_.getD k 0 + n)).length := fun p hp => by rw [List.length_set]; exact g.like p hp
        refine ⟨by show (s.case_.set k _).length ≤ 32; rw [List.length_set]; exact g.letters, fun x hx => ?_, g.few, hl, g.pmost, fun e => ?_, g.mask, ?_⟩
        · rcases List.mem_or_eq_of_mem_set hx with hx | hx
          · exact g.most x hx
          · rw [hx]; exact hn'
        · have e' : (s.case_.set k (s.case_.getD k 0 + n)).length = 0 := congrArg List.length e
          rw [List.length_set] at e'
          omega
        · refine (fits_iff hl).mpr fun j hj => ?_
          rw [List.length_set] at hj
          have h1 := (fits_iff g.like).mp g.stand j hj
          refine Nat.le_trans h1 ?_
          by_cases e : j = k
          · subst e
            rw [List.getD_eq_getElem?_getD (l := s.case_.set j _), List.getElem?_set_self hk']
            exact Nat.le_add_right _ _
          · rw [List.getD_eq_getElem?_getD, List.getD_eq_getElem?_getD, List.getElem?_set_ne (Ne.symm e)]
            exact Nat.le_refl _
  | sets i =>
    unfold Sx07.step
    dsimp only
    split
    · exact g
    · rename_i c hc
      have hi : i < s.pages.length := (List.getElem?_eq_some_iff.mp hc).1
      split
      · exact g
      · rename_i hs
        split
        · exact g
        · rename_i hf
          rw [Bool.not_eq_true] at hs
          refine ⟨g.letters, g.most, g.few, g.like, g.pmost, g.bare, ?_, Bool.not_eq_false _ ▸ hf⟩
          refine lt_of_bits fun b hb => ?_
          rw [testBit_add hs] at hb
          rcases Bool.or_eq_true _ _ ▸ hb with hb | hb
          · exact bit_lt g.mask hb
          · rw [← of_decide_eq_true hb]; exact hi
  | back i =>
    unfold Sx07.step
    dsimp only
    split
    · exact g
    · rename_i hi
      split
      · exact g
      · rename_i hs
        rw [Bool.not_eq_false] at hs
        refine ⟨g.letters, g.most, g.few, g.like, g.pmost, g.bare, Nat.lt_of_le_of_lt (Nat.sub_le _ _) g.mask, ?_⟩
        refine (fits_iff g.like).mpr fun j hj => Nat.le_trans (need_mono fun b _ hb => ?_) ((fits_iff g.like).mp g.stand j hj)
        rw [testBit_sub hs] at hb
        exact (Bool.and_eq_true _ _ ▸ hb).1
  | left => exact g
  | fits m => exact g
  | fullest => exact g
  | turns => exact g
  | bought t => exact g
  | plan l => exact g
end TC
end
section
set_option linter.all false
namespace TC
open Sx07
theorem within_iff {a b : Nat} : within a b = true ↔ ∀ i, a.testBit i = true → b.testBit i = true := by
  unfold within
  rw [beq_iff_eq]
  constructor
  · intro h i hi
    have e := congrArg (fun x => x.testBit i) h
    simp only [Nat.testBit_and] at e
    rw [hi, Bool.true_and] at e
    exact e
  · intro h
    apply Nat.eq_of_testBit_eq
    intro i
    rw [Nat.testBit_and]
    cases e : a.testBit i with
    | false => rfl
    | true => rw [h i e]; rfl
theorem sub_bits {m b : Nat} (h : within b m = true) : m - b = m ^^^ b ∧ b ≤ m := by
  have hw := within_iff.mp h
  have h0 : (m ^^^ b) &&& b = 0 := by
    apply Nat.eq_of_testBit_eq
    intro i
    rw [Nat.testBit_and, Nat.testBit_xor, Nat.zero_testBit]
    cases e : b.testBit i with
    | false => simp
    | true => rw [hw i e]; rfl
  have h1 : (m ^^^ b) ||| b = m := by
    apply Nat.eq_of_testBit_eq
    intro i
    rw [Nat.testBit_or, Nat.testBit_xor]
    cases e : b.testBit i with
    | false => simp
    | true => rw [hw i e]; rfl
  have h2 := and_add_or (m ^^^ b) b
  rw [h0, h1] at h2
  omega
theorem testBit_minus {m b i : Nat} (h : within b m = true) : (m - b).testBit i = (m.testBit i && !b.testBit i) := by
  rw [(sub_bits h).1, Nat.testBit_xor]
  cases e : b.testBit i with
  | false => simp
  | true => rw [within_iff.mp h i e]; rfl
theorem lowest_spec {m : Nat} (h0 : m ≠ 0) (h : m < 2 ^ 16) : m.testBit (lowest m) = true ∧ lowest m < 16 ∧ ∀ i, i < lowest m → m.testBit i = false := by
  unfold lowest
  cases e : (List.range 16).find? fun i => m.testBit i with
  | none =>
    exfalso
    apply h0
    apply Nat.eq_of_testBit_eq
    intro i
    rw [Nat.zero_testBit]
    by_cases hi : i < 16
    · have := List.find?_eq_none.mp e i (List.mem_range.mpr hi)
      simpa using this
    · exact testBit_high h (by omega)
  | some k =>
    obtain ⟨h1, as, bs, h2, h3⟩ := List.find?_eq_some_iff_append.mp e
    have hk : k < 16 := List.mem_range.mp (by rw [h2]; simp)
    refine ⟨h1, hk, fun i hi => ?_⟩
    have hi' : i < k := hi
    have hm : i ∈ List.range 16 := List.mem_range.mpr (by omega)
    have hp : (List.range 16).Pairwise (· < ·) := List.pairwise_lt_range
    rw [h2] at hm hp
    rcases List.mem_append.mp hm with hm | hm
    · have := h3 i hm
      simpa using this
    · exfalso
      rcases List.mem_cons.mp hm with hm | hm
      · omega
      · have := (List.pairwise_append.mp hp).2.1
        have := (List.pairwise_cons.mp this).1 i hm
        omega
inductive Parted : Nat → List Nat → Prop where
  | nil : Parted 0 []
  | cons {m b : Nat} {r : List Nat} (h0 : m ≠ 0) (hw : within b m = true) (hl : b.testBit (lowest m) = true) (hr : Parted (m - b) r) : Parted m (b :: r)
def pcnt (m : Nat) : Nat := ((List.range 16).filter fun i => m.testBit i).length
theorem filter_len_lt {α : Type} {p q : α → Bool} : ∀ {l : List α}, (∀ x ∈ l, p x = true → q x = true) → (∃ x ∈ l, q x = true ∧ p x = false) → (l.filter p).length < (l.filter q).length
  | [], _, ⟨x, hx, _⟩ => by cases hx
  | a :: l, h, ⟨x, hx, h1, h2⟩ => by
    have hm : ∀ {l : List α}, (∀ x ∈ l, p x = true → q x = true) → (l.filter p).length ≤ (l.filter q).length := by
      intro l
      induction l with
      | nil => intro _; exact Nat.le_refl _
      | cons a l ih =>
        intro h
        have := ih fun x hx => h x (List.mem_cons_of_mem _ hx)
        rw [List.filter_cons, List.filter_cons]
        by_cases hp : p a = true
        · rw [if_pos hp, if_pos (h a (List.mem_cons_self ..) hp), List.length_cons, List.length_cons]; omega
        · rw [if_neg hp]
          split
          · rw [List.length_cons]; omega
          · exact this
    rw [List.filter_cons, List.filter_cons]
    have hl := fun x hx => h x (List.mem_cons_of_mem a hx)
    rcases List.mem_cons.mp hx with e | hx
    · subst e
      have := hm hl
      rw [if_neg (by rw [h2]; decide), if_pos h1, List.length_cons]
      omega
    · have := filter_len_lt hl ⟨x, hx, h1, h2⟩
      by_cases hp : p a = true
      · rw [if_pos hp, if_pos (h a (List.mem_cons_self ..) hp), List.length_cons, List.length_cons]; omega
      · rw [if_neg hp]
        split
        · rw [List.length_cons]; omega
        · exact this
theorem pcnt_sub {m b : Nat} (h0 : m ≠ 0) (h : m < 2 ^ 16) (hw : within b m = true) (hl : b.testBit (lowest m) = true) : pcnt (m - b) < pcnt m := by
  obtain ⟨h1, h2, _⟩ := lowest_spec h0 h
  unfold pcnt
  refine filter_len_lt (fun x _ hx => ?_) ⟨lowest m, List.mem_range.mpr h2, h1, ?_⟩
  · rw [testBit_minus hw] at hx
    exact (Bool.and_eq_true _ _ ▸ hx).1
  · rw [testBit_minus hw, hl]
    simp
theorem mem_parts : ∀ (f : Nat) (m : Nat) (r : List Nat), m < 2 ^ 16 → pcnt m < f → (r ∈ parts f m ↔ Parted m r)
  | 0, m, r, _, h => by omega
  | f + 1, m, r, hm, hf => by
    unfold parts
    by_cases h0 : m = 0
    · rw [if_pos h0]
      subst h0
      constructor
      · intro h
        rw [List.mem_singleton.mp h]
        exact .nil
      · intro h
        cases h with
        | nil => exact List.mem_singleton.mpr rfl
        | cons h0 => exact absurd rfl h0
    · rw [if_neg h0]
      constructor
      · intro h
        obtain ⟨b, hb, h⟩ := List.mem_flatMap.mp h
        obtain ⟨r', hr, e⟩ := List.mem_map.mp h
        subst e
        obtain ⟨_, hb⟩ := List.mem_filter.mp hb
        rw [Bool.and_eq_true] at hb
        have hp := pcnt_sub h0 hm hb.1 hb.2
        exact .cons h0 hb.1 hb.2 ((mem_parts f (m - b) r' (by omega) (by omega)).mp hr)
      · intro h
        cases h with
        | nil => exact absurd rfl h0
        | @cons _ b r' _ hw hl hr =>
          have hp := pcnt_sub h0 hm hw hl
          refine List.mem_flatMap.mpr ⟨b, List.mem_filter.mpr ⟨List.mem_range.mpr (by have := (sub_bits hw).2; omega), by rw [Bool.and_eq_true]; exact ⟨hw, hl⟩⟩, List.mem_map.mpr ⟨r', (mem_parts f (m - b) r' (by omega) (by omega)).mpr hr, rfl⟩⟩
theorem pcnt_le {n : Nat} : ∀ {m : Nat}, m < 2 ^ n → pcnt m ≤ n := by
  intro m h
  unfold pcnt
  have h1 : ∀ (k n : Nat), ((List.range k).filter fun i => decide (i < n)).length ≤ n := by
    intro k
    induction k with
    | zero => intro n; exact Nat.zero_le _
    | succ k ih =>
      intro n
      rw [List.range_succ, List.filter_append, List.length_append]
      by_cases hk : k < n
      · have h2 : ((List.range k).filter fun i => decide (i < n)).length ≤ (List.range k).length := List.length_filter_le _ _
        rw [List.length_range] at h2
        have h3 : ([k].filter fun i => decide (i < n)).length ≤ 1 := List.length_filter_le _ _
        omega
      · have h3 : ([k].filter fun i => decide (i < n)) = [] := by simp [hk]
        rw [h3]
        exact ih n
  refine Nat.le_trans ?_ (h1 16 n)
  generalize List.range 16 = l
  induction l with
  | nil => exact Nat.le_refl _
  | cons a l ih =>
    rw [List.filter_cons, List.filter_cons]
    by_cases ha : m.testBit a = true
    · rw [if_pos ha, if_pos (decide_eq_true (bit_lt h ha)), List.length_cons, List.length_cons]; omega
    · rw [if_neg ha]
      split
      · rw [List.length_cons]; omega
      · exact ih
theorem allOf_lt (pages : List Counts) : allOf pages < 2 ^ pages.length := by
  have h : 0 < 2 ^ pages.length := Nat.two_pow_pos pages.length
  exact Nat.sub_lt h Nat.one_pos
theorem mem_partings {pages : List Counts} (h8 : pages.length ≤ 8) {r : List Nat} : r ∈ partings pages ↔ Parted (allOf pages) r := by
  unfold partings
  have h1 := allOf_lt pages
  have h2 : 2 ^ pages.length ≤ 2 ^ 8 := Nat.pow_le_pow_right (by decide) h8
  exact mem_parts _ _ _ (Nat.lt_of_lt_of_le h1 (Nat.le_trans h2 (by decide))) (Nat.lt_succ_of_le (pcnt_le h1))
theorem rowLess_cons (a b : Nat) (r s : List Nat) : rowLess (a :: r) (b :: s) = (decide (a < b) || (a == b && rowLess r s)) := rfl
theorem rowLess_irrefl : ∀ r : List Nat, rowLess r r = false
  | [] => rfl
  | a :: r => by rw [rowLess_cons, rowLess_irrefl r]; simp
theorem rowLess_trans : ∀ {a b c : List Nat}, rowLess a b = true → rowLess b c = true → rowLess a c = true
  | [], b, [], h1, h2 => by
    cases b with
    | nil => exact h1
    | cons x y => simp [rowLess] at h2
  | [], b, c :: cs, h1, h2 => rfl
  | a :: as, [], c, h1, h2 => by simp [rowLess] at h1
  | a :: as, b :: bs, [], h1, h2 => by simp [rowLess] at h2
  | a :: as, b :: bs, c :: cs, h1, h2 => by
    rw [rowLess_cons, Bool.or_eq_true, Bool.and_eq_true, decide_eq_true_eq, beq_iff_eq] at h1 h2 ⊢
    rcases h1 with h1 | ⟨h1, h1'⟩
    · rcases h2 with h2 | ⟨h2, _⟩
      · left; omega
      · left; omega
    · rcases h2 with h2 | ⟨h2, h2'⟩
      · left; omega
      · right; exact ⟨by omega, rowLess_trans h1' h2'⟩
theorem rowLess_tri : ∀ (a b : List Nat), rowLess a b = true ∨ a = b ∨ rowLess b a = true
  | [], [] => .inr (.inl rfl)
  | [], b :: bs => .inl rfl
  | a :: as, [] => .inr (.inr rfl)
  | a :: as, b :: bs => by
    rw [rowLess_cons, rowLess_cons, Bool.or_eq_true, Bool.and_eq_true, decide_eq_true_eq, beq_iff_eq, Bool.or_eq_true, Bool.and_eq_true, decide_eq_true_eq, beq_iff_eq]
    rcases Nat.lt_trichotomy a b with h | h | h
    · exact .inl (.inl h)
    · subst h
      rcases rowLess_tri as bs with h | h | h
      · exact .inl (.inr ⟨rfl, h⟩)
      · subst h; exact .inr (.inl rfl)
      · exact .inr (.inr (.inr ⟨rfl, h⟩))
    · exact .inr (.inr (.inl h))
theorem parts_sorted : ∀ (f : Nat) (m : Nat), (parts f m).Pairwise fun a b => rowLess a b = true
  | 0, m => by unfold parts; exact .nil
  | f + 1, m => by
    unfold parts
    split
    · exact List.pairwise_singleton _ _
    · rw [List.pairwise_flatMap]
      refine ⟨fun b _ => ?_, ?_⟩
      · rw [List.pairwise_map]
        refine (parts_sorted f (m - b)).imp fun {x y} h => ?_
        rw [rowLess_cons, h]; simp
      · refine List.Pairwise.imp (R := fun (a b : Nat) => a < b) (fun {a b} h => ?_) (List.pairwise_lt_range.filter _)
        intro x hx y hy
        obtain ⟨x', _, rfl⟩ := List.mem_map.mp hx
        obtain ⟨y', _, rfl⟩ := List.mem_map.mp hy
        rw [rowLess_cons, decide_eq_true h]; rfl
end TC
end
section
set_option linter.all false
namespace TC
open Sx07
structure LeastR (f : List Nat → Nat) (S : List Nat → Prop) (r : List Nat) : Prop where
  mem : S r
  least : ∀ x, S x → f r < f x ∨ (f r = f x ∧ (r = x ∨ rowLess r x = true))
theorem LeastR.unique {f : List Nat → Nat} {S : List Nat → Prop} {r s : List Nat} (h : LeastR f S r) (g : LeastR f S s) : r = s := by
  rcases h.least s g.mem with h1 | ⟨h1, h2⟩
  · rcases g.least r h.mem with h3 | ⟨h3, _⟩ <;> omega
  · rcases h2 with h2 | h2
    · exact h2
    · rcases g.least r h.mem with h3 | ⟨_, h4⟩
      · omega
      · rcases h4 with h4 | h4
        · exact h4.symm
        · have := rowLess_trans h2 h4
          rw [rowLess_irrefl] at this
          cases this
theorem LeastR.congr {f : List Nat → Nat} {S S' : List Nat → Prop} {r : List Nat} (e : ∀ x, S x ↔ S' x) (h : LeastR f S r) : LeastR f S' r := ⟨(e r).mp h.mem, fun x hx => h.least x ((e x).mpr hx)⟩
def lstep (f : List Nat → Nat) (b : Option (List Nat)) (r : List Nat) : Option (List Nat) := match b with
  | none => some r
  | some x => if f r < f x then some r else some x
theorem lfold_some (f : List Nat → Nat) : ∀ (l : List (List Nat)) (y : List Nat), (∀ x ∈ l, rowLess y x = true) → l.Pairwise (fun a b => rowLess a b = true) → ∃ r, l.foldl (lstep f) (some y) = some r ∧ LeastR f (fun x => x = y ∨ x ∈ l) r
  | [], y, _, _ => ⟨y, rfl, ⟨.inl rfl, fun x hx => by
      rcases hx with hx | hx
      · subst hx; exact .inr ⟨rfl, .inl rfl⟩
      · cases hx⟩⟩
  | a :: l, y, hy, hp => by
    obtain ⟨ha, hp⟩ := List.pairwise_cons.mp hp
    rw [List.foldl_cons]
    by_cases h : f a < f y
    · have e : lstep f (some y) a = some a := by unfold lstep; exact if_pos h
      obtain ⟨r, h1, h2⟩ := lfold_some f l a ha hp
      refine ⟨r, by rw [e]; exact h1, ⟨?_, fun x hx => ?_⟩⟩
      · rcases h2.mem with q | q
        · subst q; exact .inr (List.mem_cons_self ..)
        · exact .inr (List.mem_cons_of_mem _ q)
      · rcases hx with q | q
        · subst q
          have h3 : f r ≤ f a := by rcases h2.least a (.inl rfl) with q | ⟨q, _⟩ <;> omega
          exact .inl (by omega)
        · rcases List.mem_cons.mp q with q | q
          · exact h2.least x (.inl q)
          · exact h2.least x (.inr q)
    · have e : lstep f (some y) a = some y := by unfold lstep; exact if_neg h
      obtain ⟨r, h1, h2⟩ := lfold_some f l y (fun x hx => hy x (List.mem_cons_of_mem _ hx)) hp
      refine ⟨r, by rw [e]; exact h1, ⟨?_, fun x hx => ?_⟩⟩
      · rcases h2.mem with q | q
        · exact .inl q
        · exact .inr (List.mem_cons_of_mem _ q)
      · rcases hx with q | q
        · exact h2.least x (.inl q)
        · rcases List.mem_cons.mp q with q | q
          · subst q
            rcases h2.least y (.inl rfl) with q | ⟨q, q'⟩
            · exact .inl (by omega)
            · by_cases hxy : f y = f x
              · refine .inr ⟨by omega, .inr ?_⟩
                have h3 := hy x (List.mem_cons_self ..)
                rcases q' with q' | q'
                · subst q'; exact h3
                · exact rowLess_trans q' h3
              · exact .inl (by omega)
          · exact h2.least x (.inr q)
theorem leastBy_cons (f : List Nat → Nat) {l : List (List Nat)} (hp : l.Pairwise fun a b => rowLess a b = true) : (l = [] ∧ leastBy f l = none) ∨ ∃ r, leastBy f l = some r ∧ LeastR f (· ∈ l) r := by
  cases l with
  | nil => exact .inl ⟨rfl, rfl⟩
  | cons a l =>
    obtain ⟨ha, hp⟩ := List.pairwise_cons.mp hp
    obtain ⟨r, h1, h2⟩ := lfold_some f l a ha hp
    exact .inr ⟨r, h1, h2.congr fun x => List.mem_cons.symm⟩
theorem leastBy_iff (f : List Nat → Nat) {l : List (List Nat)} (hp : l.Pairwise fun a b => rowLess a b = true) {r : List Nat} : leastBy f l = some r ↔ LeastR f (· ∈ l) r := by
  rcases leastBy_cons f hp with ⟨h1, h2⟩ | ⟨r', h1, h2⟩
  · rw [h2]
    subst h1
    constructor
    · intro h; cases h
    · intro h; cases h.mem
  · rw [h1]
    constructor
    · intro h
      rw [← Option.some.inj h]; exact h2
    · intro h
      rw [h2.unique h]
theorem leastBy_none_iff (f : List Nat → Nat) {l : List (List Nat)} : leastBy f l = none ↔ l = [] := by
  cases l with
  | nil => exact ⟨fun _ => rfl, fun _ => rfl⟩
  | cons a l =>
    constructor
    · intro h
      exfalso
      have : ∀ (l : List (List Nat)) (y : List Nat), ∃ r, l.foldl (lstep f) (some y) = some r := by
        intro l
        induction l with
        | nil => intro y; exact ⟨y, rfl⟩
        | cons b l ih =>
          intro y
          rw [List.foldl_cons]
          unfold lstep
          dsimp only
          split
          · exact ih b
          · exact ih y
      obtain ⟨r, hr⟩ := this l a
      have h' : l.foldl (lstep f) (some a) = none := h
      rw [hr] at h'
      cases h'
    · intro h; cases h
theorem turns_iff {case_ : Counts} {pages : List Counts} (h8 : pages.length ≤ 8) {r : List Nat} :
    turns case_ pages = some r ↔ LeastR List.length (fun x => Parted (allOf pages) x ∧ ∀ b ∈ x, fits case_ pages b = true) r := by
  unfold turns
  have e : ∀ x, x ∈ (partings pages).filter (fun r => r.all (fits case_ pages)) ↔ (Parted (allOf pages) x ∧ ∀ b ∈ x, fits case_ pages b = true) := fun x => by
    rw [List.mem_filter, mem_partings h8, List.all_eq_true]
  refine (leastBy_iff List.length (List.Pairwise.filter _ (parts_sorted _ _))).trans ⟨fun h => h.congr e, fun h => h.congr fun x => (e x).symm⟩
theorem turns_none {case_ : Counts} {pages : List Counts} (h8 : pages.length ≤ 8) : turns case_ pages = none ↔ ∀ x, Parted (allOf pages) x → ¬ ∀ b ∈ x, fits case_ pages b = true := by
  unfold turns
  refine (leastBy_none_iff _).trans ?_
  rw [List.filter_eq_nil_iff]
  constructor
  · intro h x hx hb
    exact h x ((mem_partings h8).mpr hx) (List.all_eq_true.mpr hb)
  · intro h x hx hb
    exact h x ((mem_partings h8).mp hx) (List.all_eq_true.mp hb)
theorem bought_iff {case_ : Counts} {pages : List Counts} {t : Nat} (h8 : pages.length ≤ 8) {r : List Nat} :
    bought case_ pages t = some r ↔ LeastR (fun r => total (missing case_ pages r)) (fun x => Parted (allOf pages) x ∧ x.length ≤ t) r := by
  unfold bought
  have e : ∀ x, x ∈ (partings pages).filter (fun r => decide (r.length ≤ t)) ↔ (Parted (allOf pages) x ∧ x.length ≤ t) := fun x => by
    rw [List.mem_filter, mem_partings h8, decide_eq_true_eq]
  refine (leastBy_iff _ (List.Pairwise.filter _ (parts_sorted _ _))).trans ⟨fun h => h.congr e, fun h => h.congr fun x => (e x).symm⟩
theorem bought_none {case_ : Counts} {pages : List Counts} {t : Nat} (h8 : pages.length ≤ 8) : bought case_ pages t = none ↔ ∀ x, Parted (allOf pages) x → ¬ x.length ≤ t := by
  unfold bought
  refine (leastBy_none_iff _).trans ?_
  rw [List.filter_eq_nil_iff]
  constructor
  · intro h x hx hb
    exact h x ((mem_partings h8).mpr hx) (decide_eq_true hb)
  · intro h x hx hb
    exact h x ((mem_partings h8).mp hx) (of_decide_eq_true hb)
theorem better_iff {x y : Plan} : better x y = true ↔ x.1 < y.1 ∨ (x.1 = y.1 ∧ rowLess x.2 y.2 = true) := by
  unfold better
  rw [Bool.or_eq_true, Bool.and_eq_true, decide_eq_true_eq, beq_iff_eq]
theorem better_irrefl (x : Plan) : ¬ better x x = true := by
  rw [better_iff, rowLess_irrefl]
  intro h
  rcases h with h | ⟨_, h⟩
  · exact Nat.lt_irrefl _ h
  · cases h
theorem better_trans {x y z : Plan} (h : better x y = true) (g : better y z = true) : better x z = true := by
  rw [better_iff] at *
  rcases h with h | ⟨h, h'⟩
  · rcases g with g | ⟨g, _⟩
    · exact .inl (Nat.lt_trans h g)
    · exact .inl (by rw [← g]; exact h)
  · rcases g with g | ⟨g, g'⟩
    · exact .inl (by rw [h]; exact g)
    · exact .inr ⟨h.trans g, rowLess_trans h' g'⟩
theorem better_tri (x y : Plan) : better x y = true ∨ x = y ∨ better y x = true := by
  rw [better_iff, better_iff]
  rcases Nat.lt_trichotomy x.1 y.1 with h | h | h
  · exact .inl (.inl h)
  · rcases rowLess_tri x.2 y.2 with g | g | g
    · exact .inl (.inr ⟨h, g⟩)
    · exact .inr (.inl (Prod.ext h g))
    · exact .inr (.inr (.inr ⟨h.symm, g⟩))
  · exact .inr (.inr (.inl h))
structure LeastP (S : Plan → Prop) (p : Plan) : Prop where
  mem : S p
  least : ∀ x, S x → p = x ∨ better p x = true
theorem LeastP.unique {S : Plan → Prop} {p q : Plan} (h : LeastP S p) (g : LeastP S q) : p = q := by
  rcases h.least q g.mem with e | e
  · exact e
  · rcases g.least p h.mem with e' | e'
    · exact e'.symm
    · exact absurd (better_trans e e') (better_irrefl _)
theorem LeastP.congr {S S' : Plan → Prop} {p : Plan} (e : ∀ x, S x ↔ S' x) (h : LeastP S p) : LeastP S' p := ⟨(e p).mp h.mem, fun x hx => h.least x ((e x).mpr hx)⟩
def bstep (b : Option Plan) (x : Plan) : Option Plan := match b with
  | none => some x
  | some y => if better x y = true then some x else some y
theorem bfold_some : ∀ (l : List Plan) (y : Plan), ∃ p, l.foldl bstep (some y) = some p ∧ LeastP (fun x => x = y ∨ x ∈ l) p
  | [], y => ⟨y, rfl, ⟨.inl rfl, fun x hx => by
      rcases hx with hx | hx
      · exact .inl hx.symm
      · cases hx⟩⟩
  | a :: l, y => by
    rw [List.foldl_cons]
    by_cases h : better a y = true
    · have e : bstep (some y) a = some a := by unfold bstep; exact if_pos h
      obtain ⟨p, h1, h2⟩ := bfold_some l a
      refine ⟨p, by rw [e]; exact h1, ⟨?_, fun x hx => ?_⟩⟩
      · rcases h2.mem with q | q
        · subst q; exact .inr (List.mem_cons_self ..)
        · exact .inr (List.mem_cons_of_mem _ q)
      · rcases hx with q | q
        · subst q
          rcases h2.least a (.inl rfl) with q | q
          · rw [q]; exact .inr h
          · exact .inr (better_trans q h)
        · rcases List.mem_cons.mp q with q | q
          · exact h2.least x (.inl q)
          · exact h2.least x (.inr q)
    · have e : bstep (some y) a = some y := by unfold bstep; exact if_neg h
      obtain ⟨p, h1, h2⟩ := bfold_some l y
      refine ⟨p, by rw [e]; exact h1, ⟨?_, fun x hx => ?_⟩⟩
      · rcases h2.mem with q | q
        · exact .inl q
        · exact .inr (List.mem_cons_of_mem _ q)
      · rcases hx with q | q
        · exact h2.least x (.inl q)
        · rcases List.mem_cons.mp q with q | q
          · subst q
            rcases better_tri y x with q | q | q
            · rcases h2.least y (.inl rfl) with r | r
              · rw [r]; exact .inr q
              · exact .inr (better_trans r q)
            · rw [← q]; exact h2.least y (.inl rfl)
            · exact absurd q h
          · exact h2.least x (.inr q)
theorem best_cons (l : List Plan) : (l = [] ∧ best l = none) ∨ ∃ p, best l = some p ∧ LeastP (· ∈ l) p := by
  cases l with
  | nil => exact .inl ⟨rfl, rfl⟩
  | cons a l =>
    obtain ⟨p, h1, h2⟩ := bfold_some l a
    exact .inr ⟨p, h1, h2.congr fun x => List.mem_cons.symm⟩
inductive Run (case_ : Counts) (pages : List Counts) : Nat → List Nat → List Nat → Prop where
  | nil {s : Nat} : Run case_ pages s [] []
  | cons {s f m : Nat} {l row : List Nat} (hm : m ∈ stands case_ pages s f) (hr : Run case_ pages m l row) : Run case_ pages s (f :: l) (m :: row)
def costOf (pages : List Counts) : Nat → List Nat → List Nat → Nat
  | s, f :: l, m :: row => setFor pages s f + costOf pages m l row
  | _, _, _ => 0
theorem best_iff {l : List Plan} {p : Plan} : best l = some p ↔ LeastP (· ∈ l) p := by
  rcases best_cons l with ⟨h1, h2⟩ | ⟨r', h1, h2⟩
  · rw [h2]
    subst h1
    constructor
    · intro h; cases h
    · intro h; cases h.mem
  · rw [h1]
    constructor
    · intro h
      rw [← Option.some.inj h]; exact h2
    · intro h
      rw [h2.unique h]
theorem better_cons {c : Nat} {m : Nat} {p q : Plan} (h : better p q = true) : better (c + p.1, m :: p.2) (c + q.1, m :: q.2) = true := by
  rw [better_iff] at h ⊢
  rcases h with h | ⟨h, g⟩
  · exact .inl (Nat.add_lt_add_left h c)
  · refine .inr ⟨by show c + p.1 = c + q.1; rw [h], ?_⟩
    show rowLess (m :: p.2) (m :: q.2) = true
    rw [rowLess_cons, g]; simp
theorem plans_cons (case_ : Counts) (pages : List Counts) (f : Nat) (l : List Nat) : plans case_ pages (f :: l) = (List.range (2 ^ pages.length)).map fun s => best ((stands case_ pages s f).filterMap fun m => (((plans case_ pages l).getD m none).map fun p => (setFor pages s f + p.1, m :: p.2))) := rfl
theorem plans_iff (case_ : Counts) (pages : List Counts) : ∀ (l : List Nat) (s : Nat), s < 2 ^ pages.length → ∀ p : Plan,
    (plans case_ pages l).getD s none = some p ↔ LeastP (fun x => Run case_ pages s l x.2 ∧ x.1 = costOf pages s l x.2) p
  | [], s, hs, p => by
    have e : (plans case_ pages []).getD s none = some (0, []) := by
      unfold plans
      rw [List.getD_eq_getElem?_getD, List.getElem?_replicate, if_pos hs]; rfl
    have h1 : LeastP (fun x : Plan => Run case_ pages s [] x.2 ∧ x.1 = costOf pages s [] x.2) (0, []) := by
      refine ⟨⟨.nil, rfl⟩, fun x hx => .inl ?_⟩
      obtain ⟨x1, x2⟩ := x
      obtain ⟨h1, h2⟩ := hx
      cases h1
      rw [show x1 = 0 from h2]
    rw [e]
    constructor
    · intro h; rw [← Option.some.inj h]; exact h1
    · intro h; rw [h1.unique h]
  | f :: l, s, hs, p => by
    have ih := plans_iff case_ pages l
    have e : (plans case_ pages (f :: l)).getD s none = best ((stands case_ pages s f).filterMap fun m => (((plans case_ pages l).getD m none).map fun p => (setFor pages s f + p.1, m :: p.2))) := by
      rw [plans_cons, List.getD_eq_getElem?_getD, List.getElem?_map, List.getElem?_range hs]; rfl
    rw [e, best_iff]
    have hlt : ∀ m, m ∈ stands case_ pages s f → m < 2 ^ pages.length := fun m hm => List.mem_range.mp (List.mem_filter.mp hm).1
    constructor
    · intro h
      obtain ⟨m, hm, h1⟩ := List.mem_filterMap.mp h.mem
      cases hq : (plans case_ pages l).getD m none with
      | none => rw [hq] at h1; cases h1
      | some q =>
        rw [hq] at h1
        have h2 : (setFor pages s f + q.1, m :: q.2) = p := Option.some.inj h1
        have hl := (ih m (hlt m hm) q).mp hq
        refine ⟨?_, fun x hx => ?_⟩
        · rw [← h2]
          refine ⟨.cons hm hl.mem.1, ?_⟩
          show setFor pages s f + q.1 = setFor pages s f + costOf pages m l q.2
          rw [← hl.mem.2]
        · obtain ⟨x1, x2⟩ := x
          obtain ⟨g1, g2⟩ := hx
          have g1' : Run case_ pages s (f :: l) x2 := g1
          cases g1' with
          | @cons _ _ m' _ row hm' hr =>
            -- the best from m'
            have g3 : x1 = setFor pages s f + costOf pages m' l row := g2
            cases hq' : (plans case_ pages l).getD m' none with
            | none =>
              exfalso
              -- some run from m': the best exists
              have : ∀ (l : List Nat) (s : Nat), s < 2 ^ pages.length → (∃ row, Run case_ pages s l row) → ∃ p, (plans case_ pages l).getD s none = some p := by
                intro l
                induction l with
                | nil =>
                  intro s hs _
                  refine ⟨(0, []), ?_⟩
                  unfold plans
                  rw [List.getD_eq_getElem?_getD, List.getElem?_replicate, if_pos hs]; rfl
                | cons f l ih2 =>
                  intro s hs ⟨row, hr⟩
                  cases hr with
                  | @cons _ _ m _ row' hm hr =>
                    obtain ⟨q, hq⟩ := ih2 m (List.mem_range.mp (List.mem_filter.mp hm).1) ⟨row', hr⟩
                    rw [plans_cons, List.getD_eq_getElem?_getD, List.getElem?_map, List.getElem?_range hs]
                    show ∃ p, best _ = some p
                    rcases best_cons ((stands case_ pages s f).filterMap fun m => (((plans case_ pages l).getD m none).map fun p => (setFor pages s f + p.1, m :: p.2))) with ⟨z, _⟩ | ⟨p, z, _⟩
                    · exfalso
                      have zm : (setFor pages s f + q.1, m :: q.2) ∈ ((stands case_ pages s f).filterMap fun m => (((plans case_ pages l).getD m none).map fun p => (setFor pages s f + p.1, m :: p.2))) := List.mem_filterMap.mpr ⟨m, hm, by rw [hq]; rfl⟩
                      rw [z] at zm
                      cases zm
                    · exact ⟨p, z⟩
              obtain ⟨q', z⟩ := this l m' (hlt m' hm') ⟨row, hr⟩
              rw [z] at hq'
              cases hq'
            | some q' =>
              have hl' := (ih m' (hlt m' hm') q').mp hq'
              have g4 : (setFor pages s f + q'.1, m' :: q'.2) ∈ ((stands case_ pages s f).filterMap fun m => (((plans case_ pages l).getD m none).map fun p => (setFor pages s f + p.1, m :: p.2))) := List.mem_filterMap.mpr ⟨m', hm', by rw [hq']; rfl⟩
              have g5 := h.least _ g4
              have g6 : (setFor pages s f + q'.1, m' :: q'.2) = (x1, m' :: row) ∨ better (setFor pages s f + q'.1, m' :: q'.2) (x1, m' :: row) = true := by
                rcases hl'.least (costOf pages m' l row, row) ⟨hr, rfl⟩ with z | z
                · left; rw [g3, z]
                · right; rw [g3]; exact better_cons z
              rcases g5 with z | z
              · rw [z]; exact g6
              · rcases g6 with z' | z'
                · rw [← z']; exact .inr z
                · exact .inr (better_trans z z')
    · intro h
      obtain ⟨p1, p2⟩ := p
      obtain ⟨g1, g2⟩ := h.mem
      have g1' : Run case_ pages s (f :: l) p2 := g1
      cases g1' with
      | @cons _ _ m _ row hm hr =>
        have g3 : p1 = setFor pages s f + costOf pages m l row := g2
        have hl : LeastP (fun x : Plan => Run case_ pages m l x.2 ∧ x.1 = costOf pages m l x.2) (costOf pages m l row, row) := by
          refine ⟨⟨hr, rfl⟩, fun x hx => ?_⟩
          obtain ⟨x1, x2⟩ := x
          obtain ⟨k1, k2⟩ := hx
          have k2' : x1 = costOf pages m l x2 := k2
          rcases better_tri (costOf pages m l row, row) (x1, x2) with z | z | z
          · exact .inr z
          · exact .inl z
          · exfalso
            have z2 := better_cons (c := setFor pages s f) (m := m) z
            rcases h.least (setFor pages s f + x1, m :: x2) ⟨.cons hm k1, by show _ = setFor pages s f + costOf pages m l x2; rw [← k2']⟩ with y | y
            · rw [← y, g3] at z2
              exact better_irrefl _ z2
            · rw [g3] at y
              exact better_irrefl _ (better_trans y z2)
        have hq := (ih m (hlt m hm) _).mpr hl
        refine ⟨List.mem_filterMap.mpr ⟨m, hm, by rw [hq, g3]; rfl⟩, fun x hx => ?_⟩
        obtain ⟨m', hm', k1⟩ := List.mem_filterMap.mp hx
        cases hq' : (plans case_ pages l).getD m' none with
        | none => rw [hq'] at k1; cases k1
        | some q' =>
          rw [hq'] at k1
          have k2 : (setFor pages s f + q'.1, m' :: q'.2) = x := Option.some.inj k1
          have k3 := (ih m' (hlt m' hm') q').mp hq'
          rw [← k2]
          exact h.least _ ⟨.cons hm' k3.mem.1, by show _ = setFor pages s f + costOf pages m' l q'.2; rw [← k3.mem.2]⟩
theorem plan_iff {case_ : Counts} {pages : List Counts} {l : List Nat} {s : Nat} (hs : s < 2 ^ pages.length) {p : Plan} :
    plan case_ pages s l = some p ↔ LeastP (fun x => Run case_ pages s l x.2 ∧ x.1 = costOf pages s l x.2) p := plans_iff case_ pages l s hs p
end TC
end
section
set_option linter.all false
namespace TC
open Sx07
theorem fits_mono {case_ : Counts} {pages : List Counts} (h : ∀ p ∈ pages, p.length = case_.length) {a b : Nat} (hw : within a b = true) (hb : fits case_ pages b = true) : fits case_ pages a = true :=
  (fits_iff h).mpr fun j hj => Nat.le_trans (need_mono fun i _ hi => within_iff.mp hw i hi) ((fits_iff h).mp hb j hj)
theorem Parted.has {m : Nat} {r : List Nat} (h : Parted m r) : ∀ i, m.testBit i = true → ∃ b ∈ r, b.testBit i = true := by
  induction h with
  | nil => intro i hi; rw [Nat.zero_testBit] at hi; cases hi
  | @cons m b r h0 hw hl hr ih =>
    intro i hi
    cases e : b.testBit i with
    | true => exact ⟨b, List.mem_cons_self .., e⟩
    | false =>
      obtain ⟨c, hc, h⟩ := ih i (by rw [testBit_minus hw, hi, e]; rfl)
      exact ⟨c, List.mem_cons_of_mem _ hc, h⟩
theorem within_two_pow {b i : Nat} (h : b.testBit i = true) : within (2 ^ i) b = true := within_iff.mpr fun j hj => by
  rw [Nat.testBit_two_pow] at hj
  rw [← of_decide_eq_true hj]; exact h
theorem singles : ∀ (k m : Nat), m < 2 ^ 16 → pcnt m < k → ∃ r, Parted m r ∧ ∀ b ∈ r, ∃ i, b = 2 ^ i ∧ m.testBit i = true
  | 0, m, _, h => by omega
  | k + 1, m, hm, hk => by
    by_cases h0 : m = 0
    · subst h0; exact ⟨[], .nil, fun b hb => by cases hb⟩
    · obtain ⟨h1, h2, h3⟩ := lowest_spec h0 hm
      have hw := within_two_pow h1
      have hl : (2 ^ lowest m).testBit (lowest m) = true := by rw [Nat.testBit_two_pow]; simp
      have hp := pcnt_sub h0 hm hw hl
      obtain ⟨r, h4, h5⟩ := singles k (m - 2 ^ lowest m) (Nat.lt_of_le_of_lt (Nat.sub_le _ _) hm) (by omega)
      refine ⟨2 ^ lowest m :: r, .cons h0 hw hl h4, fun b hb => ?_⟩
      rcases List.mem_cons.mp hb with e | hb
      · exact ⟨lowest m, e, h1⟩
      · obtain ⟨i, e, hi⟩ := h5 b hb
        rw [testBit_minus hw] at hi
        exact ⟨i, e, (Bool.and_eq_true _ _ ▸ hi).1⟩
theorem pow_le16 {n : Nat} (h8 : n ≤ 8) : 2 ^ n ≤ 2 ^ 16 := Nat.pow_le_pow_right (by decide) (Nat.le_trans h8 (by decide))
theorem allOf_bit {pages : List Counts} {i : Nat} : (allOf pages).testBit i = decide (i < pages.length) := Nat.testBit_two_pow_sub_one pages.length i
theorem turns_none_iff {case_ : Counts} {pages : List Counts} (h8 : pages.length ≤ 8) (h : ∀ p ∈ pages, p.length = case_.length) :
    turns case_ pages = none ↔ ∃ i, i < pages.length ∧ fits case_ pages (2 ^ i) = false := by
  rw [turns_none h8]
  constructor
  · intro q
    obtain ⟨r, h1, h2⟩ := singles _ (allOf pages) (Nat.lt_of_lt_of_le (allOf_lt pages) (pow_le16 h8)) (Nat.lt_succ_self _)
    have h3 := q r h1
    apply Classical.byContradiction
    intro hn
    apply h3
    intro b hb
    obtain ⟨i, e, hi⟩ := h2 b hb
    rw [allOf_bit] at hi
    cases e2 : fits case_ pages b with
    | true => rfl
    | false => exact absurd ⟨i, of_decide_eq_true hi, by rw [← e]; exact e2⟩ hn
  · intro ⟨i, hi, hf⟩ x hx hb
    obtain ⟨b, h1, h2⟩ := hx.has i (by rw [allOf_bit]; exact decide_eq_true hi)
    have := fits_mono h (within_two_pow h2) (hb b h1)
    rw [hf] at this
    cases this
theorem within_self (m : Nat) : within m m = true := within_iff.mpr fun _ h => h
theorem Parted.zero {m : Nat} (h : Parted m []) : m = 0 := by
  generalize e : ([] : List Nat) = r at h
  cases h with
  | nil => rfl
  | cons => cases e
theorem bought_none_iff {case_ : Counts} {pages : List Counts} {t : Nat} (h8 : pages.length ≤ 8) : bought case_ pages t = none ↔ t = 0 ∧ pages ≠ [] := by
  rw [bought_none h8]
  constructor
  · intro q
    by_cases h0 : pages = []
    · subst h0
      exact absurd (Nat.zero_le _) (q [] .nil)
    · refine ⟨?_, h0⟩
      have hm : allOf pages ≠ 0 := fun e => by
        have := allOf_bit (pages := pages) (i := 0)
        rw [e, Nat.zero_testBit] at this
        have h1 : ¬ 0 < pages.length := of_decide_eq_false this.symm
        exact h0 (List.eq_nil_of_length_eq_zero (by omega))
      have h1 := (lowest_spec hm (Nat.lt_of_lt_of_le (allOf_lt pages) (pow_le16 h8))).1
      have h2 : Parted (allOf pages) [allOf pages] := .cons hm (within_self _) h1 (by rw [show allOf pages - allOf pages = 0 from Nat.sub_self _]; exact .nil)
      have := q _ h2
      rw [List.length_singleton] at this
      omega
  · intro ⟨ht, hp⟩ x hx hl
    subst ht
    have : x = [] := List.eq_nil_of_length_eq_zero (by omega)
    subst this
    cases e : pages with
    | nil => exact hp e
    | cons a l =>
      have h0 : allOf pages = 0 := hx.zero
      have := allOf_bit (pages := pages) (i := 0)
      rw [h0, Nat.zero_testBit] at this
      have h1 : ¬ 0 < pages.length := of_decide_eq_false this.symm
      rw [e, List.length_cons] at h1
      omega
theorem mem_stands {case_ : Counts} {pages : List Counts} {s f m : Nat} : m ∈ stands case_ pages s f ↔ m < 2 ^ pages.length ∧ within f m = true ∧ within m (s ||| f) = true ∧ fits case_ pages m = true := by
  unfold stands
  rw [List.mem_filter, List.mem_range, Bool.and_eq_true, Bool.and_eq_true]
theorem plan_none {case_ : Counts} {pages : List Counts} {l : List Nat} {s : Nat} (hs : s < 2 ^ pages.length) : plan case_ pages s l = none ↔ ¬ ∃ row, Run case_ pages s l row := by
  constructor
  · intro h ⟨row, hr⟩
    -- a least one exists: by the plans' own recursion
    have : ∀ (l : List Nat) (s : Nat), s < 2 ^ pages.length → (∃ row, Run case_ pages s l row) → ∃ p, (plans case_ pages l).getD s none = some p := by
      intro l
      induction l with
      | nil =>
        intro s hs _
        refine ⟨(0, []), ?_⟩
        unfold plans
        rw [List.getD_eq_getElem?_getD, List.getElem?_replicate, if_pos hs]; rfl
      | cons f l ih2 =>
        intro s hs ⟨row, hr⟩
        cases hr with
        | @cons _ _ m _ row' hm hr =>
          obtain ⟨q, hq⟩ := ih2 m (mem_stands.mp hm).1 ⟨row', hr⟩
          rw [plans_cons, List.getD_eq_getElem?_getD, List.getElem?_map, List.getElem?_range hs]
          show ∃ p, best _ = some p
          rcases best_cons ((stands case_ pages s f).filterMap fun m => (((plans case_ pages l).getD m none).map fun p => (setFor pages s f + p.1, m :: p.2))) with ⟨z, _⟩ | ⟨p, z, _⟩
          · exfalso
            have zm : (setFor pages s f + q.1, m :: q.2) ∈ ((stands case_ pages s f).filterMap fun m => (((plans case_ pages l).getD m none).map fun p => (setFor pages s f + p.1, m :: p.2))) := List.mem_filterMap.mpr ⟨m, hm, by rw [hq]; rfl⟩
            rw [z] at zm
            cases zm
          · exact ⟨p, z⟩
    obtain ⟨p, hp⟩ := this l s hs ⟨row, hr⟩
    have h' : (plans case_ pages l).getD s none = none := h
    rw [hp] at h'
    cases h'
  · intro h
    cases e : plan case_ pages s l with
    | none => rfl
    | some p => exact absurd ⟨p.2, ((plan_iff hs).mp e).mem.1⟩ h
theorem run_exists {case_ : Counts} {pages : List Counts} : ∀ {l : List Nat} {s : Nat}, (∀ f ∈ l, f < 2 ^ pages.length) → (∀ f ∈ l, fits case_ pages f = true) → Run case_ pages s l l
  | [], _, _, _ => .nil
  | f :: l, s, h1, h2 => by
    refine .cons (mem_stands.mpr ⟨h1 f (List.mem_cons_self ..), within_self f, within_iff.mpr fun i hi => by rw [Nat.testBit_or, hi]; simp, h2 f (List.mem_cons_self ..)⟩) ?_
    exact run_exists (fun g hg => h1 g (List.mem_cons_of_mem _ hg)) fun g hg => h2 g (List.mem_cons_of_mem _ hg)
theorem Run.fits {case_ : Counts} {pages : List Counts} (h : ∀ p ∈ pages, p.length = case_.length) {s : Nat} {l row : List Nat} (hr : Run case_ pages s l row) : ∀ f ∈ l, Sx07.fits case_ pages f = true := by
  induction hr with
  | nil => intro f hf; cases hf
  | @cons s f m l row hm hr ih =>
    intro g hg
    rcases List.mem_cons.mp hg with e | hg
    · subst e
      obtain ⟨_, h1, _, h2⟩ := mem_stands.mp hm
      exact fits_mono h h1 h2
    · exact ih g hg
theorem plan_none_iff {case_ : Counts} {pages : List Counts} (h : ∀ p ∈ pages, p.length = case_.length) {l : List Nat} {s : Nat} (hs : s < 2 ^ pages.length) (hl : ∀ f ∈ l, f < 2 ^ pages.length) :
    plan case_ pages s l = none ↔ ∃ f ∈ l, Sx07.fits case_ pages f = false := by
  rw [plan_none hs]
  constructor
  · intro q
    apply Classical.byContradiction
    intro hn
    apply q
    refine ⟨l, run_exists hl fun f hf => ?_⟩
    cases e : Sx07.fits case_ pages f with
    | true => rfl
    | false => exact absurd ⟨f, hf, e⟩ hn
  · intro ⟨f, hf, e⟩ ⟨row, hr⟩
    have := hr.fits h f hf
    rw [e] at this
    cases this
end TC
end
section
set_option linter.all false
namespace TC
open Sx07
theorem nats_of {ns : List Int} (h : ∀ z ∈ ns, 0 ≤ z) : ∃ l : List Nat, ns = l.map (fun (n : Nat) => (n : Int)) := by
  induction ns with
  | nil => exact ⟨[], rfl⟩
  | cons a r ih =>
    obtain ⟨l, hl⟩ := ih fun z hz => h z (List.mem_cons_of_mem _ hz)
    have h0 := h a (List.mem_cons_self ..)
    exact ⟨a.toNat :: l, by rw [hl, List.map_cons, Int.toNat_of_nonneg h0]⟩
theorem nats_map (l : List Nat) : Sx07Neutral.nats (l.map (fun (n : Nat) => (n : Int))) = l := by
  unfold Sx07Neutral.nats
  rw [List.map_map]
  conv => rhs; rw [← List.map_id l]
  apply List.map_congr_left
  intro a _
  show ((a : Int)).toNat = a
  exact Int.toNat_natCast a
theorem Asked1.nats {x : Int × List Int} (h : Asked1 x) : ∃ l : List Nat, x.2 = l.map (fun (n : Nat) => (n : Int)) := nats_of fun z hz => (h.nn z (List.mem_cons_of_mem _ hz)).1
theorem Asked1.one {x : Int × List Int} (h : Asked1 x) (hp : x.1 = 3 ∨ x.1 = 4 ∨ x.1 = 6 ∨ x.1 = 9) : ∃ i : Nat, x.2 = [(i : Int)] := by
  obtain ⟨l, hl⟩ := h.nats
  obtain ⟨c, hc⟩ := h.is
  obtain ⟨p, ns⟩ := x
  dsimp only at *
  subst hl
  match l, hc with
  | [], hc => rcases hp with rfl | rfl | rfl | rfl <;> simp [Sx07Neutral.callOf] at hc
  | [a], _ => exact ⟨a, rfl⟩
  | a :: b :: r, hc => rcases hp with rfl | rfl | rfl | rfl <;> simp [Sx07Neutral.callOf] at hc
theorem Asked1.two {x : Int × List Int} (h : Asked1 x) (hp : x.1 = 2) : ∃ k n : Nat, x.2 = [(k : Int), (n : Int)] := by
  obtain ⟨l, hl⟩ := h.nats
  obtain ⟨c, hc⟩ := h.is
  obtain ⟨p, ns⟩ := x
  dsimp only at *
  subst hl hp
  match l, hc with
  | [], hc => simp [Sx07Neutral.callOf] at hc
  | [a], hc => simp [Sx07Neutral.callOf] at hc
  | [a, b], _ => exact ⟨a, b, rfl⟩
  | a :: b :: d :: r, hc => simp [Sx07Neutral.callOf] at hc
theorem Asked1.none {x : Int × List Int} (h : Asked1 x) (hp : x.1 = 5 ∨ x.1 = 7 ∨ x.1 = 8) : x.2 = [] := by
  obtain ⟨c, hc⟩ := h.is
  obtain ⟨p, ns⟩ := x
  dsimp only at *
  match ns, hc with
  | [], _ => rfl
  | a :: r, hc => rcases hp with rfl | rfl | rfl <;> simp [Sx07Neutral.callOf] at hc
theorem Asked1.place {x : Int × List Int} (h : Asked1 x) : 0 ≤ x.1 ∧ x.1 ≤ 10 := by
  obtain ⟨c, hc⟩ := h.is
  obtain ⟨p, ns⟩ := x
  dsimp only at *
  have h0 := (h.nn p (List.mem_cons_self ..)).1
  refine ⟨h0, ?_⟩
  apply Int.not_lt.mp
  intro hlt
  unfold Sx07Neutral.callOf at hc
  split at hc <;> simp_all
def ansOf (a : Ans) : List Int := a.v :: a.l
theorem step_of {s : Sx07.St} {p : Int} {ns : List Int} {c : Call} (h : Sx07Neutral.callOf (p :: ns) = some c) : Sx07Neutral.step s [p :: ns] = ((Sx07.step s c).1, ansOf (Sx07.step s c).2) := by
  unfold Sx07Neutral.step
  rw [List.headD_cons, h]
  rfl
theorem step_begins (s : Sx07.St) (l : List Nat) : Sx07Neutral.step s [(0 : Int) :: l.map (fun (n : Nat) => (n : Int))] = ((Sx07.step s (.begins l)).1, ansOf (Sx07.step s (.begins l)).2) := step_of (by show some (Call.begins _) = _; rw [nats_map])
theorem step_page (s : Sx07.St) (l : List Nat) : Sx07Neutral.step s [(1 : Int) :: l.map (fun (n : Nat) => (n : Int))] = ((Sx07.step s (.page l)).1, ansOf (Sx07.step s (.page l)).2) := step_of (by show some (Call.page _) = _; rw [nats_map])
theorem step_plan (s : Sx07.St) (l : List Nat) : Sx07Neutral.step s [(10 : Int) :: l.map (fun (n : Nat) => (n : Int))] = ((Sx07.step s (.plan l)).1, ansOf (Sx07.step s (.plan l)).2) := step_of (by show some (Call.plan _) = _; rw [nats_map])
theorem step_buy (s : Sx07.St) (k n : Nat) : Sx07Neutral.step s [[(2 : Int), (k : Int), (n : Int)]] = ((Sx07.step s (.buy k n)).1, ansOf (Sx07.step s (.buy k n)).2) := step_of rfl
theorem step_sets (s : Sx07.St) (i : Nat) : Sx07Neutral.step s [[(3 : Int), (i : Int)]] = ((Sx07.step s (.sets i)).1, ansOf (Sx07.step s (.sets i)).2) := step_of rfl
theorem step_back (s : Sx07.St) (i : Nat) : Sx07Neutral.step s [[(4 : Int), (i : Int)]] = ((Sx07.step s (.back i)).1, ansOf (Sx07.step s (.back i)).2) := step_of rfl
theorem step_left (s : Sx07.St) : Sx07Neutral.step s [[(5 : Int)]] = (s, ansOf (Sx07.step s .left).2) := step_of (c := .left) rfl
theorem step_fits (s : Sx07.St) (m : Nat) : Sx07Neutral.step s [[(6 : Int), (m : Int)]] = (s, ansOf (Sx07.step s (.fits m)).2) := step_of (c := .fits m) rfl
theorem step_fullest (s : Sx07.St) : Sx07Neutral.step s [[(7 : Int)]] = (s, ansOf (Sx07.step s .fullest).2) := step_of (c := .fullest) rfl
theorem step_turns (s : Sx07.St) : Sx07Neutral.step s [[(8 : Int)]] = (s, ansOf (Sx07.step s .turns).2) := step_of (c := .turns) rfl
theorem step_bought (s : Sx07.St) (t : Nat) : Sx07Neutral.step s [[(9 : Int), (t : Int)]] = (s, ansOf (Sx07.step s (.bought t)).2) := step_of (c := .bought t) rfl
theorem good_stepN {s : Sx07.St} (g : Good s) (c : List (List Int)) : Good (Sx07Neutral.step s c).1 := by
  unfold Sx07Neutral.step
  split
  · exact good_step g _
  · exact g
theorem left_getD {s : Sx07.St} (g : Good s) (j : Nat) : s.left.getD j 0 = s.case_.getD j 0 - need s.standing j 0 s.pages := by
  unfold Sx07.St.left
  have hw := wants_length (m := s.standing) g.like
  rw [← wants_getD g.like (m := s.standing) (k := s.case_.length)]
  simp only [List.getD_eq_getElem?_getD, List.getElem?_zipWith]
  by_cases hj : j < s.case_.length
  · rw [List.getElem?_eq_getElem hj, List.getElem?_eq_getElem (show j < (wants s.case_.length s.pages s.standing).length by omega)]
    rfl
  · rw [List.getElem?_eq_none (show s.case_.length ≤ j by omega)]
    simp
theorem left_length {s : Sx07.St} (g : Good s) : s.left.length = s.case_.length := by
  unfold Sx07.St.left
  rw [List.length_zipWith, wants_length g.like, Nat.min_self]
theorem need_add {j i b : Nat} {m : Nat} (hm : m.testBit i = false) : ∀ {l : List Counts} {k : Nat}, need (m + 2 ^ i) j k l = need m j k l + (if k ≤ i then (l.getD (i - k) []).getD j 0 else 0)
  | [], k => by rw [need, need]; split <;> simp
  | p :: l, k => by
    rw [need, need, need_add (b := b) hm (l := l) (k := k + 1), testBit_add hm]
    by_cases hk : k = i
    · subst hk
      rw [hm, if_neg (show ¬ k + 1 ≤ k by omega), if_pos (Nat.le_refl k), Nat.sub_self]
      simp
      omega
    · have hik : ¬ i = k := fun e => hk e.symm
      by_cases hlt : k < i
      · rw [if_pos (show k + 1 ≤ i by omega), if_pos (Nat.le_of_lt hlt), show i - k = (i - (k + 1)) + 1 by omega, List.getD_cons_succ]
        simp [hik]
        omega
      · rw [if_neg (show ¬ k + 1 ≤ i by omega), if_neg (show ¬ k ≤ i by omega)]
        simp [hik]
theorem fits_set {s : Sx07.St} (g : Good s) {i : Nat} {c : Counts} (hc : s.pages[i]? = some c) (hs : s.standing.testBit i = false) :
    fits s.case_ s.pages (s.standing + 2 ^ i) = true ↔ ∀ j, j < s.case_.length → c.getD j 0 ≤ s.left.getD j 0 := by
  rw [fits_iff g.like]
  have h1 := (fits_iff g.like).mp g.stand
  constructor
  · intro h j hj
    have h2 := h j hj
    have h3 := h1 j hj
    rw [need_add (b := 0) hs, if_pos (Nat.zero_le _), Nat.sub_zero, List.getD_eq_getElem?_getD (l := s.pages), hc, Option.getD_some] at h2
    rw [left_getD g]
    omega
  · intro h j hj
    have h2 := h j hj
    have h3 := h1 j hj
    rw [left_getD g] at h2
    rw [need_add (b := 0) hs, if_pos (Nat.zero_le _), Nat.sub_zero, List.getD_eq_getElem?_getD (l := s.pages), hc, Option.getD_some]
    omega
def firstLack (l c : List Nat) : Option Nat := (lacks l c).findIdx? fun x => x != 0
theorem lacks_get {l c : List Nat} {j : Nat} (hl : l.length = c.length) (hj : j < l.length) : (lacks l c)[j]? = some (c.getD j 0 - l.getD j 0) := by
  unfold lacks
  rw [List.getElem?_zipWith, List.getElem?_eq_getElem hj, List.getElem?_eq_getElem (hl ▸ hj), List.getD_eq_getElem?_getD, List.getD_eq_getElem?_getD, List.getElem?_eq_getElem hj, List.getElem?_eq_getElem (hl ▸ hj)]
  rfl
theorem firstLack_some {l c : List Nat} (hl : l.length = c.length) {i : Nat} (hi : i < l.length) (h1 : ∀ j, j < i → c.getD j 0 ≤ l.getD j 0) (h2 : l.getD i 0 < c.getD i 0) : firstLack l c = some i := by
  unfold firstLack
  have hlen : (lacks l c).length = l.length := by unfold lacks; rw [List.length_zipWith]; omega
  have get : ∀ j (hj : j < l.length), (lacks l c)[j]'(by omega) = c.getD j 0 - l.getD j 0 := fun j hj => by
    have := lacks_get hl hj
    rw [List.getElem?_eq_getElem (by omega)] at this
    exact Option.some.inj this
  rw [List.findIdx?_eq_some_iff_getElem]
  refine ⟨by omega, ?_, fun j hj => ?_⟩
  · rw [get i hi]; simp only [bne_iff_ne]; omega
  · rw [get j (by omega)]
    have := h1 j hj
    simp only [bne_iff_ne]; omega
theorem firstLack_none {l c : List Nat} (hl : l.length = c.length) (h1 : ∀ j, j < l.length → c.getD j 0 ≤ l.getD j 0) : firstLack l c = Option.none := by
  unfold firstLack
  rw [List.findIdx?_eq_none_iff]
  intro x hx
  obtain ⟨j, hj⟩ := List.mem_iff_getElem?.mp hx
  have hlen : (lacks l c).length = l.length := by unfold lacks; rw [List.length_zipWith]; omega
  have hj' : j < l.length := by rw [← hlen]; exact (List.getElem?_eq_some_iff.mp hj).1
  rw [lacks_get hl hj'] at hj
  have := h1 j hj'
  rw [← Option.some.inj hj, Nat.sub_eq_zero_of_le this]
  rfl
theorem firstLack_is {l c : List Nat} (hl : l.length = c.length) {i : Nat} (h : firstLack l c = some i) : i < l.length ∧ l.getD i 0 < c.getD i 0 := by
  unfold firstLack at h
  have hlen : (lacks l c).length = l.length := by unfold lacks; rw [List.length_zipWith]; omega
  rw [List.findIdx?_eq_some_iff_getElem] at h
  obtain ⟨hi, h1, _⟩ := h
  have hi' : i < l.length := by omega
  refine ⟨hi', ?_⟩
  have := lacks_get hl hi'
  rw [List.getElem?_eq_getElem hi] at this
  rw [Option.some.inj this] at h1
  simp only [bne_iff_ne] at h1
  omega
end TC
end
section
set_option linter.all false
namespace TC
open Sx07
def runs : Sx07.St → List (Int × List Int) → Sx07.St × List Int
  | s, [] => (s, [])
  | s, x :: r => ((runs (Sx07Neutral.step s [x.1 :: x.2]).1 r).1, ((Sx07Neutral.step s [x.1 :: x.2]).2.length : Int) :: ((Sx07Neutral.step s [x.1 :: x.2]).2 ++ (runs (Sx07Neutral.step s [x.1 :: x.2]).1 r).2))
theorem told_played : ∀ (xs : List (Int × List Int)) (s : Sx07.St), PyFlat.told (PyFlat.played Sx07Neutral.step s (xs.map fun x => [x.1 :: x.2])) = (runs s xs).2
  | [], s => rfl
  | x :: r, s => by
    have ih := told_played r (Sx07Neutral.step s [x.1 :: x.2]).1
    rw [List.map_cons, runs, ← ih]
    rfl
theorem runs_append : ∀ (xs ys : List (Int × List Int)) (s : Sx07.St), runs s (xs ++ ys) = ((runs (runs s xs).1 ys).1, (runs s xs).2 ++ (runs (runs s xs).1 ys).2)
  | [], ys, s => rfl
  | x :: r, ys, s => by
    rw [List.cons_append, runs, runs_append r ys, runs]
    simp
theorem runs_snoc (xs : List (Int × List Int)) (x : Int × List Int) (s : Sx07.St) : runs s (xs ++ [x]) = ((Sx07Neutral.step (runs s xs).1 [x.1 :: x.2]).1, (runs s xs).2 ++ (((Sx07Neutral.step (runs s xs).1 [x.1 :: x.2]).2.length : Int) :: (Sx07Neutral.step (runs s xs).1 [x.1 :: x.2]).2)) := by
  rw [runs_append, runs, runs]
  simp
theorem runs_len : ∀ (xs : List (Int × List Int)) (s : Sx07.St), (runs s xs).2.length = ((Sx07Neutral.answers s (xs.map fun x => [x.1 :: x.2])).map List.length).sum + xs.length
  | [], s => rfl
  | x :: r, s => by
    have ih := runs_len r (Sx07Neutral.step s [x.1 :: x.2]).1
    rw [runs, List.map_cons, Sx07Neutral.answers, List.map_cons, List.sum_cons, List.length_cons, List.length_append, ih, List.length_cons]
    omega
theorem runs_good {s : Sx07.St} (g : Good s) : ∀ (xs : List (Int × List Int)), Good (runs s xs).1 := by
  intro xs
  induction xs generalizing s with
  | nil => exact g
  | cons x r ih => rw [runs]; exact ih (good_stepN g _)
theorem take_snoc2 {α : Type} {l : List α} {i : Nat} {x : α} (h : l[i]? = some x) : l.take (i + 1) = l.take i ++ [x] := by
  rw [List.take_add_one, h]; rfl
theorem runs_take_len (xs : List (Int × List Int)) (s : Sx07.St) (i : Nat) : (runs s (xs.take i)).2.length ≤ (runs s xs).2.length := by
  conv => rhs; rw [← List.take_append_drop i xs, runs_append]
  rw [List.length_append]
  exact Nat.le_add_right _ _
theorem total_sum (c : List Nat) : (c.map fun (n : Nat) => (n : Int)).sum = ((total c : Nat) : Int) := by
  have h : ∀ (c : List Nat) (a : Nat), ((c.foldl (fun (a b : Nat) => a + b) a : Nat) : Int) = (a : Int) + (c.map fun (n : Nat) => (n : Int)).sum := by
    intro c
    induction c with
    | nil => intro a; simp
    | cons x r ih => intro a; rw [List.foldl_cons, ih, List.map_cons, List.sum_cons]; omega
  have := h c 0
  unfold total
  rw [this]
  simp
theorem enc_length (x : Int × List Int) : (enc x).length = x.2.length + 3 := by
  unfold enc
  simp
theorem flat_split {xs : List (Int × List Int)} {j : Nat} {x : Int × List Int} (h : xs[j]? = some x) : xs.flatMap enc = (xs.take j).flatMap enc ++ (enc x ++ (xs.drop (j + 1)).flatMap enc) := by
  have e : xs = xs.take j ++ (x :: xs.drop (j + 1)) := by
    have hj : j < xs.length := (List.getElem?_eq_some_iff.mp h).1
    have hx : xs[j] = x := by rw [List.getElem?_eq_getElem hj] at h; exact Option.some.inj h
    rw [← hx, ← List.drop_eq_getElem_cons hj, List.take_append_drop]
  conv => lhs; rw [e, List.flatMap_append, List.flatMap_cons]
def posOf (xs : List (Int × List Int)) (j : Nat) : Nat := ((xs.take j).flatMap enc).length
theorem posOf_succ {xs : List (Int × List Int)} {j : Nat} {x : Int × List Int} (h : xs[j]? = some x) : posOf xs (j + 1) = posOf xs j + x.2.length + 3 := by
  unfold posOf
  rw [take_snoc2 h, List.flatMap_append, List.length_append, List.flatMap_cons, List.flatMap_nil, List.append_nil, enc_length]
  omega
theorem posOf_all (xs : List (Int × List Int)) : posOf xs xs.length = (xs.flatMap enc).length := by
  unfold posOf
  rw [List.take_length]
theorem at_place {xs : List (Int × List Int)} {j : Nat} {x : Int × List Int} (h : xs[j]? = some x) : (xs.flatMap enc)[posOf xs j]? = some x.1 := by
  rw [flat_split h, posOf, List.getElem?_append_right (Nat.le_refl _), Nat.sub_self]
  rfl
theorem at_count {xs : List (Int × List Int)} {j : Nat} {x : Int × List Int} (h : xs[j]? = some x) : (xs.flatMap enc)[posOf xs j + 1]? = some (x.2.length : Int) := by
  rw [flat_split h, posOf, List.getElem?_append_right (Nat.le_add_right _ _), Nat.add_sub_cancel_left]
  rfl
theorem at_numbers {xs : List (Int × List Int)} {j : Nat} {x : Int × List Int} (h : xs[j]? = some x) : ((xs.flatMap enc).drop (posOf xs j + 2)).take x.2.length = x.2 := by
  rw [flat_split h, posOf, ← List.drop_drop, List.drop_left]
  show (((x.2 ++ [0]) ++ (xs.drop (j + 1)).flatMap enc)).take x.2.length = x.2
  rw [List.append_assoc, List.take_left]
theorem posOf_lt {xs : List (Int × List Int)} {j : Nat} {x : Int × List Int} (h : xs[j]? = some x) : posOf xs j + x.2.length + 3 ≤ (xs.flatMap enc).length := by
  rw [flat_split h, List.length_append, List.length_append, enc_length]
  unfold posOf
  omega
end TC
end
section
set_option linter.all false
namespace TC
open Sx07
def wantL (k : Nat) (pages : List Counts) : List Counts := (List.range (2 ^ pages.length)).map fun m => wants k pages m
theorem wantL_length (k : Nat) (pages : List Counts) : (wantL k pages).length = 2 ^ pages.length := by unfold wantL; rw [List.length_map, List.length_range]
theorem range_double (n : Nat) : List.range (2 ^ (n + 1)) = List.range (2 ^ n) ++ (List.range (2 ^ n)).map (2 ^ n + ·) := by
  rw [Nat.pow_succ, Nat.mul_two, List.range_add]
theorem wfrom_zero_ext {k : Nat} {pages : List Counts} {p : Counts} {m : Nat} (hm : m < 2 ^ pages.length) : wants k (pages ++ [p]) m = wants k pages m := by
  rw [wants_eq, wants_eq, wfrom_append, Nat.zero_add, wfrom, testBit_high hm (Nat.le_refl _)]
  rfl
theorem wfrom_one_ext {k : Nat} {pages : List Counts} {p : Counts} {m : Nat} (hm : m < 2 ^ pages.length) : wants k (pages ++ [p]) (2 ^ pages.length + m) = plus (wants k pages m) p := by
  have hb : m.testBit pages.length = false := testBit_high hm (Nat.le_refl _)
  have e : 2 ^ pages.length + m = m + 2 ^ pages.length := Nat.add_comm _ _
  rw [wants_eq, wants_eq, wfrom_append, Nat.zero_add, wfrom, e, testBit_add hb, decide_eq_true rfl, Bool.or_true, if_pos rfl, wfrom]
  congr 1
  apply wfrom_congr
  intro j _ hj
  rw [testBit_add hb, decide_eq_false (by omega), Bool.or_false]
theorem wantL_snoc (k : Nat) (pages : List Counts) (p : Counts) : wantL k (pages ++ [p]) = wantL k pages ++ (wantL k pages).map fun c => plus c p := by
  unfold wantL
  rw [List.length_append, List.length_singleton, range_double, List.map_append, List.map_map, List.map_map]
  congr 1
  · apply List.map_congr_left
    intro m hm
    exact wfrom_zero_ext (List.mem_range.mp hm)
  · apply List.map_congr_left
    intro m hm
    exact wfrom_one_ext (List.mem_range.mp hm)
def fitsL (case_ : Counts) (pages : List Counts) : List Bool := (List.range (2 ^ pages.length)).map fun m => fits case_ pages m
theorem fitsL_length (case_ : Counts) (pages : List Counts) : (fitsL case_ pages).length = 2 ^ pages.length := by unfold fitsL; rw [List.length_map, List.length_range]
theorem fitsL_get {case_ : Counts} {pages : List Counts} {m : Nat} (h : m < 2 ^ pages.length) : (fitsL case_ pages)[m]? = some (fits case_ pages m) := by
  unfold fitsL
  rw [List.getElem?_map, List.getElem?_range h]; rfl
theorem fits_firstLack {case_ w : Counts} (hl : case_.length = w.length) : (firstLack case_ w = none) ↔ (lacks case_ w).all (fun x => x == 0) = true := by
  unfold firstLack
  rw [List.findIdx?_eq_none_iff, List.all_eq_true]
  constructor
  · intro h x hx
    have := h x hx
    simpa using this
  · intro h x hx
    have := h x hx
    simpa using this
def bitsL (m : Nat) : List Nat := ((List.range 16).filter fun i => m.testBit i).map fun i => 2 ^ i
theorem filter_bits {m a b : Nat} (hm : m < 2 ^ a) (hab : a ≤ b) : (List.range b).filter (fun i => m.testBit i) = (List.range a).filter fun i => m.testBit i := by
  obtain ⟨d, rfl⟩ := Nat.le.dest hab
  rw [List.range_add, List.filter_append]
  have : ((List.range d).map (a + ·)).filter (fun i => m.testBit i) = [] := by
    rw [List.filter_eq_nil_iff]
    intro x hx
    obtain ⟨y, _, rfl⟩ := List.mem_map.mp hx
    rw [testBit_high hm (Nat.le_add_right _ _)]
    decide
  rw [this, List.append_nil]
theorem bitsL_eq {m b : Nat} (hm : m < 2 ^ b) (hb : b ≤ 16) : bitsL m = ((List.range b).filter fun i => m.testBit i).map fun i => 2 ^ i := by
  unfold bitsL
  rw [filter_bits hm hb]
theorem mem_bitsL {m x : Nat} (hm : m < 2 ^ 16) : x ∈ bitsL m ↔ ∃ i, m.testBit i = true ∧ x = 2 ^ i := by
  unfold bitsL
  rw [List.mem_map]
  constructor
  · rintro ⟨i, hi, rfl⟩
    exact ⟨i, (List.mem_filter.mp hi).2, rfl⟩
  · rintro ⟨i, hi, rfl⟩
    exact ⟨i, List.mem_filter.mpr ⟨List.mem_range.mpr (bit_lt hm hi), hi⟩, rfl⟩
theorem bitsL_length (m : Nat) : (bitsL m).length ≤ 16 := by
  unfold bitsL
  rw [List.length_map]
  exact Nat.le_trans (List.length_filter_le _ _) (by rw [List.length_range]; exact Nat.le_refl _)
theorem sorted_ext : ∀ {a b : List Nat}, a.Pairwise (· < ·) → b.Pairwise (· < ·) → (∀ x, x ∈ a ↔ x ∈ b) → a = b
  | [], [], _, _, _ => rfl
  | [], y :: b, _, _, h => by have := (h y).mpr (List.mem_cons_self ..); cases this
  | x :: a, [], _, _, h => by have := (h x).mp (List.mem_cons_self ..); cases this
  | x :: a, y :: b, ha, hb, h => by
    obtain ⟨ha1, ha2⟩ := List.pairwise_cons.mp ha
    obtain ⟨hb1, hb2⟩ := List.pairwise_cons.mp hb
    have e : x = y := by
      rcases List.mem_cons.mp ((h x).mp (List.mem_cons_self ..)) with e | e
      · exact e
      · rcases List.mem_cons.mp ((h y).mpr (List.mem_cons_self ..)) with e' | e'
        · exact e'.symm
        · have := hb1 x e
          have := ha1 y e'
          omega
    subst e
    rw [sorted_ext ha2 hb2 fun z => ?_]
    constructor
    · intro hz
      rcases List.mem_cons.mp ((h z).mp (List.mem_cons_of_mem _ hz)) with e | e
      · have := ha1 z hz; omega
      · exact e
    · intro hz
      rcases List.mem_cons.mp ((h z).mpr (List.mem_cons_of_mem _ hz)) with e | e
      · have := hb1 z hz; omega
      · exact e
def nparts (m : Nat) : List Nat := (List.range (m + 1)).filter fun b => within b m && b.testBit (lowest m)
theorem mem_nparts {m b : Nat} : b ∈ nparts m ↔ within b m = true ∧ b.testBit (lowest m) = true := by
  unfold nparts
  rw [List.mem_filter, Bool.and_eq_true]
  exact ⟨fun h => h.2, fun h => ⟨List.mem_range.mpr (by have := (sub_bits h.1).2; omega), h⟩⟩
theorem nparts_sorted (m : Nat) : (nparts m).Pairwise (· < ·) := List.Pairwise.filter _ List.pairwise_lt_range
def dbl (l : List Nat) (bit : Nat) : List Nat := l ++ l.map fun x => x ||| bit
theorem dbl_spec {l : List Nat} {i : Nat} (hs : l.Pairwise (· < ·)) (hl : ∀ x ∈ l, x < 2 ^ i) : (dbl l (2 ^ i)).Pairwise (· < ·) ∧ (∀ x ∈ dbl l (2 ^ i), x < 2 ^ (i + 1)) := by
  have ho : ∀ x ∈ l, x ||| 2 ^ i = x + 2 ^ i := fun x hx => (add_or (testBit_high (hl x hx) (Nat.le_refl _))).symm
  have hp : 2 ^ (i + 1) = 2 ^ i + 2 ^ i := by rw [Nat.pow_succ, Nat.mul_two]
  refine ⟨?_, fun x hx => ?_⟩
  · unfold dbl
    rw [List.pairwise_append]
    refine ⟨hs, ?_, fun a ha b hb => ?_⟩
    · rw [List.pairwise_map]
      refine hs.imp_of_mem fun {a b} ha hb h => ?_
      rw [ho a ha, ho b hb]; omega
    · obtain ⟨c, hc, rfl⟩ := List.mem_map.mp hb
      have := hl a ha
      rw [ho c hc]; omega
  · rcases List.mem_append.mp hx with h | h
    · have := hl x h; omega
    · obtain ⟨c, hc, rfl⟩ := List.mem_map.mp h
      have := hl c hc
      rw [ho c hc]; omega
theorem foldl_dbl_lt {is : List Nat} : ∀ {l : List Nat} {t : Nat}, l.Pairwise (· < ·) → (∀ x ∈ l, x < 2 ^ t) → is.Pairwise (· < ·) → (∀ i ∈ is, t ≤ i) →
    ((is.map (fun i => 2 ^ i)).foldl dbl l).Pairwise (· < ·) ∧ ∀ x, x ∈ (is.map (fun i => 2 ^ i)).foldl dbl l ↔ ∃ y ∈ l, within y x = true ∧ ∀ b, x.testBit b = true → y.testBit b = true ∨ b ∈ is := by
  induction is with
  | nil =>
    intro l t hs _ _ _
    refine ⟨hs, fun x => ?_⟩
    constructor
    · intro hx
      exact ⟨x, hx, within_self x, fun b hb => .inl hb⟩
    · rintro ⟨y, hy, h1, h2⟩
      have : x = y := by
        apply Nat.eq_of_testBit_eq
        intro i
        cases e : x.testBit i with
        | true =>
          rcases h2 i e with h | h
          · exact h.symm
          · cases h
        | false =>
          cases e' : y.testBit i with
          | false => rfl
          | true =>
            have := within_iff.mp h1 i e'
            rw [e] at this; cases this
      subst this; exact hy
  | cons i is ih =>
    intro l t hs hl hi ht
    obtain ⟨hi1, hi2⟩ := List.pairwise_cons.mp hi
    have hti := ht i (List.mem_cons_self ..)
    have hl' : ∀ x ∈ l, x < 2 ^ i := fun x hx => Nat.lt_of_lt_of_le (hl x hx) (Nat.pow_le_pow_right (by decide) hti)
    obtain ⟨h1, h2⟩ := dbl_spec hs hl'
    obtain ⟨h3, h4⟩ := ih (l := dbl l (2 ^ i)) (t := i + 1) h1 h2 hi2 fun j hj => hi1 j hj
    rw [List.map_cons, List.foldl_cons]
    refine ⟨h3, fun x => (h4 x).trans ?_⟩
    constructor
    · rintro ⟨y, hy, hw, hb⟩
      rcases List.mem_append.mp hy with hy | hy
      · exact ⟨y, hy, hw, fun b h => (hb b h).imp id fun z => List.mem_cons_of_mem _ z⟩
      · obtain ⟨c, hc, rfl⟩ := List.mem_map.mp hy
        refine ⟨c, hc, within_iff.mpr fun b h => within_iff.mp hw b (by rw [Nat.testBit_or, h]; rfl), fun b h => ?_⟩
        rcases hb b h with z | z
        · rw [Nat.testBit_or, Nat.testBit_two_pow, Bool.or_eq_true, decide_eq_true_eq] at z
          rcases z with z | z
          · exact .inl z
          · subst z; exact .inr (List.mem_cons_self ..)
        · exact .inr (List.mem_cons_of_mem _ z)
    · rintro ⟨y, hy, hw, hb⟩
      have hyi : y.testBit i = false := testBit_high (hl' y hy) (Nat.le_refl _)
      cases e : x.testBit i with
      | false =>
        refine ⟨y, List.mem_append_left _ hy, hw, fun b h => ?_⟩
        rcases hb b h with z | z
        · exact .inl z
        · rcases List.mem_cons.mp z with z | z
          · subst z; rw [e] at h; cases h
          · exact .inr z
      | true =>
        refine ⟨y ||| 2 ^ i, List.mem_append_right _ (List.mem_map.mpr ⟨y, hy, rfl⟩), within_iff.mpr fun b h => ?_, fun b h => ?_⟩
        · rw [Nat.testBit_or, Nat.testBit_two_pow, Bool.or_eq_true, decide_eq_true_eq] at h
          rcases h with h | h
          · exact within_iff.mp hw b h
          · subst h; exact e
        · rw [Nat.testBit_or, Nat.testBit_two_pow, Bool.or_eq_true, decide_eq_true_eq]
          rcases hb b h with z | z
          · exact .inl (.inl z)
          · rcases List.mem_cons.mp z with z | z
            · exact .inl (.inr z.symm)
            · exact .inr z
theorem bitsL_cons {m : Nat} (h0 : m ≠ 0) (hm : m < 2 ^ 16) : ∃ is : List Nat, bitsL m = 2 ^ lowest m :: is.map (fun i => 2 ^ i) ∧ is.Pairwise (· < ·) ∧ (∀ i ∈ is, lowest m + 1 ≤ i) ∧ ∀ i, m.testBit i = true ↔ i = lowest m ∨ i ∈ is := by
  obtain ⟨h1, h2, h3⟩ := lowest_spec h0 hm
  have hmem : ∀ i, i ∈ (List.range 16).filter (fun i => m.testBit i) ↔ m.testBit i = true := fun i => by
    rw [List.mem_filter, List.mem_range]
    exact ⟨fun h => h.2, fun h => ⟨bit_lt hm h, h⟩⟩
  have hs : ((List.range 16).filter fun i => m.testBit i).Pairwise (· < ·) := List.Pairwise.filter _ List.pairwise_lt_range
  unfold bitsL
  generalize (List.range 16).filter (fun i => m.testBit i) = L at hmem hs
  cases L with
  | nil => have := (hmem _).mpr h1; cases this
  | cons a is =>
    obtain ⟨hs1, hs2⟩ := List.pairwise_cons.mp hs
    have ea : a = lowest m := by
      have ha := (hmem a).mp (List.mem_cons_self ..)
      rcases List.mem_cons.mp ((hmem _).mpr h1) with e | e
      · exact e.symm
      · have := hs1 _ e
        have := h3 a this
        rw [ha] at this; cases this
    subst ea
    exact ⟨is, rfl, hs2, fun i hi => hs1 i hi, fun i => by rw [← hmem, List.mem_cons]⟩
theorem nparts_eq {m : Nat} (h0 : m ≠ 0) (hm : m < 2 ^ 16) : ((bitsL m).drop 1).foldl dbl [(bitsL m).getD 0 0] = nparts m := by
  obtain ⟨is, e, h1, h2, h3⟩ := bitsL_cons h0 hm
  rw [e]
  show (is.map fun i => 2 ^ i).foldl dbl [2 ^ lowest m] = nparts m
  obtain ⟨h4, h5⟩ := foldl_dbl_lt (is := is) (l := [2 ^ lowest m]) (t := lowest m + 1) (List.pairwise_singleton _ _) (fun x hx => by rw [List.mem_singleton.mp hx]; exact Nat.pow_lt_pow_right (by decide) (Nat.lt_succ_self _)) h1 h2
  refine sorted_ext h4 (nparts_sorted m) fun x => (h5 x).trans ?_
  rw [mem_nparts]
  constructor
  · rintro ⟨y, hy, hw, hb⟩
    rw [List.mem_singleton.mp hy] at hw hb
    refine ⟨within_iff.mpr fun i hi => (h3 i).mpr ?_, within_iff.mp hw _ (by rw [Nat.testBit_two_pow]; simp)⟩
    rcases hb i hi with z | z
    · rw [Nat.testBit_two_pow, decide_eq_true_eq] at z
      exact .inl z.symm
    · exact .inr z
  · rintro ⟨hw, hl⟩
    refine ⟨2 ^ lowest m, List.mem_singleton.mpr rfl, within_two_pow hl, fun b hb => ?_⟩
    rcases (h3 b).mp (within_iff.mp hw b hb) with z | z
    · left; rw [z, Nat.testBit_two_pow]; simp
    · exact .inr z
theorem nparts_length {m n : Nat} (hm : m < 2 ^ n) : (nparts m).length ≤ 2 ^ n := by
  unfold nparts
  refine Nat.le_trans (List.length_filter_le _ _) ?_
  rw [List.length_range]; omega
theorem others_bit {n m i : Nat} (hm : m < 2 ^ n) : ((2 ^ n - 1) ^^^ m).testBit i = (decide (i < n) && !m.testBit i) := by
  rw [Nat.testBit_xor, Nat.testBit_two_pow_sub_one]
  by_cases hi : i < n
  · rw [decide_eq_true hi]; cases m.testBit i <;> rfl
  · rw [decide_eq_false hi, testBit_high hm (by omega)]; rfl
theorem others_lt {n m : Nat} (hm : m < 2 ^ n) : (2 ^ n - 1) ^^^ m < 2 ^ n := Nat.xor_lt_two_pow (Nat.sub_lt (Nat.two_pow_pos n) Nat.one_pos) hm
theorem fullest_one {case_ : Counts} {pages : List Counts} {m : Nat} (h8 : pages.length ≤ 8) (hm : m < 2 ^ pages.length) :
    (fits case_ pages m && !((bitsL ((2 ^ pages.length - 1) ^^^ m)).map fun b => fits case_ pages (m ||| b)).any id) = (fits case_ pages m && (List.range pages.length).all fun i => m.testBit i || !fits case_ pages (m + 2 ^ i)) := by
  congr 1
  have ho := others_lt hm
  have ho16 := Nat.lt_of_lt_of_le ho (pow_le16 h8)
  rw [Bool.eq_iff_iff, Bool.not_eq_true', List.all_eq_true, ← Bool.not_eq_true, List.any_eq_true]
  constructor
  · intro h i hi
    have hi := List.mem_range.mp hi
    cases e : m.testBit i with
    | true => rfl
    | false =>
      rw [Bool.false_or, Bool.not_eq_true']
      cases e' : fits case_ pages (m + 2 ^ i) with
      | false => rfl
      | true =>
        exfalso
        refine h ⟨_, List.mem_map.mpr ⟨2 ^ i, (mem_bitsL ho16).mpr ⟨i, by rw [others_bit hm, decide_eq_true hi, e]; rfl, rfl⟩, rfl⟩, ?_⟩
        rw [← add_or e, e']; rfl
  · rintro h ⟨x, hx, hx'⟩
    obtain ⟨b, hb, rfl⟩ := List.mem_map.mp hx
    obtain ⟨i, hi, rfl⟩ := (mem_bitsL ho16).mp hb
    rw [others_bit hm, Bool.and_eq_true, decide_eq_true_eq, Bool.not_eq_true'] at hi
    have := h i (List.mem_range.mpr hi.1)
    rw [hi.2, Bool.false_or, add_or hi.2, Bool.not_eq_true'] at this
    have hx2 : fits case_ pages (m ||| 2 ^ i) = true := hx'
    rw [this] at hx2; cases hx2
theorem alone_iff {case_ : Counts} {pages : List Counts} (h8 : pages.length ≤ 8) : ((bitsL (2 ^ pages.length - 1)).map fun b => fits case_ pages b).all id = true ↔ ∀ i, i < pages.length → fits case_ pages (2 ^ i) = true := by
  have h16 : 2 ^ pages.length - 1 < 2 ^ 16 := Nat.lt_of_lt_of_le (allOf_lt pages) (pow_le16 h8)
  rw [List.all_eq_true]
  constructor
  · intro h i hi
    exact h _ (List.mem_map.mpr ⟨2 ^ i, (mem_bitsL h16).mpr ⟨i, by rw [Nat.testBit_two_pow_sub_one]; exact decide_eq_true hi, rfl⟩, rfl⟩)
  · intro h x hx
    obtain ⟨b, hb, rfl⟩ := List.mem_map.mp hx
    obtain ⟨i, hi, rfl⟩ := (mem_bitsL h16).mp hb
    rw [Nat.testBit_two_pow_sub_one, decide_eq_true_eq] at hi
    exact h i hi
end TC
end
section
set_option linter.all false
namespace TC
open Sx07
def AllFit (fit : Nat → Bool) (x : List Nat) : Prop := ∀ b ∈ x, fit b = true
structure IsFew (fit : Nat → Bool) (m v : Nat) : Prop where
  ex : ∃ x, Parted m x ∧ AllFit fit x ∧ x.length = v
  le : ∀ x, Parted m x → AllFit fit x → v ≤ x.length
theorem few_zero (fit : Nat → Bool) : IsFew fit 0 0 := ⟨⟨[], .nil, (fun b hb => by cases hb), rfl⟩, fun _ _ _ => Nat.zero_le _⟩
theorem Parted.inv {m : Nat} (h0 : m ≠ 0) {x : List Nat} (h : Parted m x) : ∃ b r, x = b :: r ∧ b ∈ nparts m ∧ Parted (m ^^^ b) r := by
  cases h with
  | nil => exact absurd rfl h0
  | @cons _ b r _ hw hl hr => exact ⟨b, r, rfl, mem_nparts.mpr ⟨hw, hl⟩, by rw [← (sub_bits hw).1]; exact hr⟩
theorem Parted.mk {m b : Nat} (h0 : m ≠ 0) {r : List Nat} (hb : b ∈ nparts m) (h : Parted (m ^^^ b) r) : Parted m (b :: r) := by
  obtain ⟨hw, hl⟩ := mem_nparts.mp hb
  exact .cons h0 hw hl (by rw [(sub_bits hw).1]; exact h)
theorem nparts_lt {m b : Nat} (hb : b ∈ nparts m) : m ^^^ b < m ∧ b ≤ m := by
  obtain ⟨hw, hl⟩ := mem_nparts.mp hb
  obtain ⟨h1, h2⟩ := sub_bits hw
  have hp : 0 < b := Nat.lt_of_lt_of_le (Nat.two_pow_pos _) (two_pow_le hl)
  omega
theorem few_step {fit : Nat → Bool} {m v : Nat} {F : Nat → Nat} (h0 : m ≠ 0) (hF : ∀ b ∈ nparts m, IsFew fit (m ^^^ b) (F (m ^^^ b))) (hv : ∃ b ∈ nparts m, fit b = true ∧ v = F (m ^^^ b)) (hl : ∀ b ∈ nparts m, fit b = true → v ≤ F (m ^^^ b)) : IsFew fit m (1 + v) := by
  refine ⟨?_, fun x hx hf => ?_⟩
  · obtain ⟨b, hb, hfb, rfl⟩ := hv
    obtain ⟨r, h1, h2, h3⟩ := (hF b hb).ex
    refine ⟨b :: r, Parted.mk h0 hb h1, fun c hc => ?_, by rw [List.length_cons, h3]; omega⟩
    rcases List.mem_cons.mp hc with e | hc
    · rw [e]; exact hfb
    · exact h2 c hc
  · obtain ⟨b, r, rfl, hb, hr⟩ := hx.inv h0
    have h1 := hl b hb (hf b (List.mem_cons_self ..))
    have h2 := (hF b hb).le r hr fun c hc => hf c (List.mem_cons_of_mem _ hc)
    rw [List.length_cons]; omega
def FR (fit : Nat → Bool) (m : Nat) (x : List Nat) : Prop := LeastR List.length (fun x => Parted m x ∧ AllFit fit x) x
theorem FR_zero (fit : Nat → Bool) : FR fit 0 [] := by
  refine ⟨⟨.nil, fun b hb => by cases hb⟩, fun x hx => .inr ?_⟩
  have : x = [] := by
    cases hx.1 with
    | nil => rfl
    | cons h0 => exact absurd rfl h0
  subst this
  exact ⟨rfl, .inl rfl⟩
theorem FR_len {fit : Nat → Bool} {m v : Nat} {x : List Nat} (h : FR fit m x) (hf : IsFew fit m v) : x.length = v := by
  obtain ⟨y, h1, h2, h3⟩ := hf.ex
  have h4 := hf.le x h.mem.1 h.mem.2
  rcases h.least y ⟨h1, h2⟩ with h5 | ⟨h5, _⟩ <;> omega
theorem FR_step {fit : Nat → Bool} {m b : Nat} {F : Nat → Nat} {x : List Nat} (h0 : m ≠ 0) (hm : IsFew fit m (F m)) (hF : ∀ c ∈ nparts m, IsFew fit (m ^^^ c) (F (m ^^^ c))) (hb : b ∈ nparts m) (hfb : fit b = true) (hlt : F (m ^^^ b) < F m)
    (hle : ∀ c ∈ nparts m, fit c = true → F (m ^^^ c) < F m → b ≤ c) (hx : FR fit (m ^^^ b) x) : FR fit m (b :: x) := by
  refine ⟨⟨Parted.mk h0 hb hx.mem.1, fun c hc => ?_⟩, fun y hy => ?_⟩
  · rcases List.mem_cons.mp hc with e | hc
    · rw [e]; exact hfb
    · exact hx.mem.2 c hc
  · have e1 := FR_len hx (hF b hb)
    have e2 := hm.le y hy.1 hy.2
    rw [List.length_cons, e1]
    by_cases he : F (m ^^^ b) + 1 < y.length
    · exact .inl he
    · refine .inr ⟨by omega, ?_⟩
      obtain ⟨c, r, rfl, hc, hr⟩ := hy.1.inv h0
      have hfr : AllFit fit r := fun d hd => hy.2 d (List.mem_cons_of_mem _ hd)
      rw [List.length_cons] at he e2
      have h3 := (hF c hc).le r hr hfr
      have h4 := hle c hc (hy.2 c (List.mem_cons_self ..)) (by omega)
      by_cases hbc : b = c
      · subst hbc
        rcases hx.least r ⟨hr, hfr⟩ with h5 | ⟨_, h5⟩
        · omega
        · rcases h5 with h5 | h5
          · subst h5; exact .inl rfl
          · right; rw [rowLess_cons, h5]; simp
      · right
        rw [rowLess_cons, decide_eq_true (show b < c by omega)]; rfl
theorem FR_next {fit : Nat → Bool} {m : Nat} {F : Nat → Nat} (h0 : m ≠ 0) (hm : IsFew fit m (F m)) (hF : ∀ c ∈ nparts m, IsFew fit (m ^^^ c) (F (m ^^^ c))) : ∃ b ∈ nparts m, fit b = true ∧ F (m ^^^ b) < F m := by
  obtain ⟨x, h1, h2, h3⟩ := hm.ex
  obtain ⟨b, r, rfl, hb, hr⟩ := h1.inv h0
  have := (hF b hb).le r hr fun d hd => h2 d (List.mem_cons_of_mem _ hd)
  rw [List.length_cons] at h3
  exact ⟨b, hb, h2 b (List.mem_cons_self ..), by omega⟩
theorem filter_head {l : List Nat} {p : Nat → Bool} (hs : l.Pairwise (· < ·)) (hne : ∃ b ∈ l, p b = true) : ∃ b, (l.filter p)[0]? = some b ∧ b ∈ l ∧ p b = true ∧ ∀ c ∈ l, p c = true → b ≤ c := by
  have hs' := List.Pairwise.filter p hs
  have hmem : ∀ b, b ∈ l.filter p ↔ b ∈ l ∧ p b = true := fun b => List.mem_filter
  generalize l.filter p = L at hs' hmem
  cases L with
  | nil =>
    obtain ⟨b, h1, h2⟩ := hne
    have := (hmem b).mpr ⟨h1, h2⟩
    cases this
  | cons a L =>
    obtain ⟨h1, _⟩ := List.pairwise_cons.mp hs'
    obtain ⟨ha1, ha2⟩ := (hmem a).mp (List.mem_cons_self ..)
    refine ⟨a, rfl, ha1, ha2, fun c hc hp => ?_⟩
    rcases List.mem_cons.mp ((hmem c).mpr ⟨hc, hp⟩) with e | e
    · omega
    · exact Nat.le_of_lt (h1 c e)
def miss (L : Nat → Counts) (e : Counts) (x : List Nat) : Counts := x.foldl (fun (c : Counts) b => List.zipWith (fun (x y : Nat) => max x y) c (L b)) e
theorem miss_cons (L : Nat → Counts) (e : Counts) (b : Nat) (x : List Nat) : miss L e (b :: x) = miss L (List.zipWith (fun (x y : Nat) => max x y) e (L b)) x := rfl
theorem missing_eq (case_ : Counts) (pages : List Counts) (r : List Nat) : missing case_ pages r = miss (fun b => lacks case_ (wants case_.length pages b)) (zeros case_.length) r := rfl
theorem total_foldl (c : Counts) : ∀ a : Nat, c.foldl (fun (a b : Nat) => a + b) a = a + total c := by
  have h : ∀ (c : List Nat) (a : Nat), c.foldl (fun (a b : Nat) => a + b) a = a + c.foldl (fun (a b : Nat) => a + b) 0 := by
    intro c
    induction c with
    | nil => intro a; rfl
    | cons x r ih => intro a; rw [List.foldl_cons, List.foldl_cons, ih, ih (0 + x)]; omega
  exact h c
theorem total_cons (x : Nat) (c : Counts) : total (x :: c) = x + total c := by
  show c.foldl (fun (a b : Nat) => a + b) (0 + x) = _
  rw [total_foldl]; omega
theorem total_max : ∀ (e l : Counts), e.length = l.length → total e ≤ total (List.zipWith (fun (x y : Nat) => max x y) e l)
  | [], _, _ => by simp [total]
  | x :: e, [], h => by simp at h
  | x :: e, y :: l, h => by
    have ih := total_max e l (by simpa using h)
    rw [List.zipWith_cons_cons, total_cons, total_cons]
    have : x ≤ max x y := Nat.le_max_left ..
    omega
theorem miss_length {L : Nat → Counts} {k : Nat} (hL : ∀ b, (L b).length = k) : ∀ {x : List Nat} {e : Counts}, e.length = k → (miss L e x).length = k
  | [], e, h => h
  | b :: x, e, h => by rw [miss_cons]; exact miss_length hL (by rw [List.length_zipWith, h, hL, Nat.min_self])
theorem total_miss {L : Nat → Counts} {k : Nat} (hL : ∀ b, (L b).length = k) : ∀ {x : List Nat} {e : Counts}, e.length = k → total e ≤ total (miss L e x)
  | [], e, h => Nat.le_refl _
  | b :: x, e, h => by
    rw [miss_cons]
    exact Nat.le_trans (total_max e (L b) (by rw [h, hL])) (total_miss hL (by rw [List.length_zipWith, h, hL, Nat.min_self]))
abbrev Found := Nat × List Nat × List Nat
def geB (best : Option Found) (v : Nat) : Prop := match best with
  | none => False
  | some b => b.1 ≤ v
def ltB (best : Option Found) (v : Nat) : Prop := match best with
  | none => True
  | some b => v < b.1
def Post (L : Nat → Counts) (S : List Nat → Prop) (e row : List Nat) (best out : Option Found) : Prop :=
  (out = best ∧ ∀ x, S x → geB best (total (miss L e x))) ∨ ∃ x, LeastR (fun x => total (miss L e x)) S x ∧ out = some (total (miss L e x), miss L e x, row ++ x) ∧ ltB best (total (miss L e x))
theorem Post.congr {L : Nat → Counts} {S S' : List Nat → Prop} {e row : List Nat} {best out : Option Found} (q : ∀ x, S x ↔ S' x) (h : Post L S e row best out) : Post L S' e row best out := by
  rcases h with ⟨h1, h2⟩ | ⟨x, h1, h2, h3⟩
  · exact .inl ⟨h1, fun x hx => h2 x ((q x).mpr hx)⟩
  · exact .inr ⟨x, h1.congr q, h2, h3⟩
def Rest (m t : Nat) (x : List Nat) : Prop := Parted m x ∧ x.length ≤ t
def Heads (ps : List Nat) (m t : Nat) (x : List Nat) : Prop := ∃ b r, x = b :: r ∧ b ∈ ps ∧ Rest (m ^^^ b) t r
theorem post_none (L : Nat → Counts) (m t : Nat) (e row : List Nat) (best : Option Found) : Post L (Heads [] m t) e row best best := .inl ⟨rfl, fun x ⟨b, r, _, hb, _⟩ => by cases hb⟩
theorem post_step {L : Nat → Counts} {ps : List Nat} {m t b : Nat} {e row : List Nat} {best mid out : Option Found} (hb : ∀ c ∈ ps, c < b) (h1 : Post L (Heads ps m t) e row best mid)
    (h2 : Post L (Rest (m ^^^ b) t) (List.zipWith (fun (x y : Nat) => max x y) e (L b)) (row ++ [b]) mid out) : Post L (Heads (ps ++ [b]) m t) e row best out := by
  have split : ∀ x, Heads (ps ++ [b]) m t x → Heads ps m t x ∨ ∃ r, x = b :: r ∧ Rest (m ^^^ b) t r := by
    rintro x ⟨c, r, rfl, hc, hr⟩
    rcases List.mem_append.mp hc with hc | hc
    · exact .inl ⟨c, r, rfl, hc, hr⟩
    · rw [List.mem_singleton.mp hc] at hr ⊢; exact .inr ⟨r, rfl, hr⟩
  have low : ∀ x, Heads ps m t x → ∀ r, rowLess x (b :: r) = true := by
    rintro x ⟨c, r', rfl, hc, _⟩ r
    rw [rowLess_cons, decide_eq_true (hb c hc)]; rfl
  have up : ∀ x, Heads ps m t x → Heads (ps ++ [b]) m t x := fun x ⟨c, r, e, hc, hr⟩ => ⟨c, r, e, List.mem_append_left _ hc, hr⟩
  rcases h1 with ⟨rfl, g1⟩ | ⟨y, g1, rfl, g3⟩
  · rcases h2 with ⟨rfl, k1⟩ | ⟨z, k1, rfl, k3⟩
    · refine .inl ⟨rfl, fun x hx => ?_⟩
      rcases split x hx with hx | ⟨r, rfl, hr⟩
      · exact g1 x hx
      · exact k1 r hr
    · refine .inr ⟨b :: z, ⟨⟨b, z, rfl, List.mem_append_right _ (List.mem_singleton.mpr rfl), k1.mem⟩, fun x hx => ?_⟩, by rw [miss_cons, List.append_assoc]; rfl, k3⟩
      rcases split x hx with hx | ⟨r, rfl, hr⟩
      · left
        have q := g1 x hx
        revert q k3
        cases mid with
        | none => intro _ q; exact q.elim
        | some p => intro k3 q; exact Nat.lt_of_lt_of_le k3 q
      · rcases k1.least r hr with q | ⟨q, q'⟩
        · exact .inl q
        · refine .inr ⟨q, ?_⟩
          rcases q' with q' | q'
          · subst q'; exact .inl rfl
          · right; rw [rowLess_cons, q']; simp
  · rcases h2 with ⟨rfl, k1⟩ | ⟨z, k1, rfl, k3⟩
    · refine .inr ⟨y, ⟨up y g1.mem, fun x hx => ?_⟩, rfl, g3⟩
      rcases split x hx with hx | ⟨r, rfl, hr⟩
      · exact g1.least x hx
      · have q : total (miss L e y) ≤ total (miss L e (b :: r)) := k1 r hr
        by_cases q' : total (miss L e y) < total (miss L e (b :: r))
        · exact .inl q'
        · exact .inr ⟨Nat.le_antisymm q (Nat.le_of_not_lt q'), .inr (low y g1.mem r)⟩
    · have k3' : total (miss L e (b :: z)) < total (miss L e y) := k3
      refine .inr ⟨b :: z, ⟨⟨b, z, rfl, List.mem_append_right _ (List.mem_singleton.mpr rfl), k1.mem⟩, fun x hx => ?_⟩, by rw [miss_cons, List.append_assoc]; rfl, ?_⟩
      · rcases split x hx with hx | ⟨r, rfl, hr⟩
        · left
          show total (miss L e (b :: z)) < total (miss L e x)
          rcases g1.least x hx with q | ⟨q, _⟩
          · have q : total (miss L e y) < total (miss L e x) := q
            omega
          · have q : total (miss L e y) = total (miss L e x) := q
            omega
        · rcases k1.least r hr with q | ⟨q, q'⟩
          · exact .inl q
          · refine .inr ⟨q, ?_⟩
            rcases q' with q' | q'
            · subst q'; exact .inl rfl
            · right; rw [rowLess_cons, q']; simp
      · revert g3
        cases best with
        | none => intro _; trivial
        | some p => intro g3; exact Nat.lt_trans k3' g3
theorem post_stop {L : Nat → Counts} {k m t : Nat} {e row : List Nat} {p : Found} (hL : ∀ b, (L b).length = k) (he : e.length = k) (h : p.1 ≤ total e) : Post L (Rest m t) e row (some p) (some p) :=
  .inl ⟨rfl, fun x _ => Nat.le_trans h (total_miss hL he)⟩
theorem post_done {L : Nat → Counts} {t : Nat} {e row : List Nat} {best : Option Found} (h : ltB best (total e)) : Post L (Rest 0 t) e row best (some (total e, e, row)) := by
  refine .inr ⟨[], ⟨⟨.nil, Nat.zero_le _⟩, fun x hx => .inr ?_⟩, by show some _ = some (total e, e, row ++ []); rw [List.append_nil], h⟩
  have : x = [] := by
    cases hx.1 with
    | nil => rfl
    | cons h0 => exact absurd rfl h0
  subst this
  exact ⟨rfl, .inl rfl⟩
theorem heads_many {m t : Nat} (h0 : m ≠ 0) (ht : 2 ≤ t) (x : List Nat) : Heads (nparts m) m (t - 1) x ↔ Rest m t x := by
  constructor
  · rintro ⟨b, r, rfl, hb, h1, h2⟩
    exact ⟨Parted.mk h0 hb h1, by rw [List.length_cons]; omega⟩
  · rintro ⟨h1, h2⟩
    obtain ⟨b, r, rfl, hb, hr⟩ := h1.inv h0
    rw [List.length_cons] at h2
    exact ⟨b, r, rfl, hb, hr, by omega⟩
theorem self_nparts {m : Nat} (h0 : m ≠ 0) (hm : m < 2 ^ 16) : m ∈ nparts m := mem_nparts.mpr ⟨within_self m, (lowest_spec h0 hm).1⟩
theorem heads_one {m : Nat} (h0 : m ≠ 0) (hm : m < 2 ^ 16) (x : List Nat) : Heads [m] m 0 x ↔ Rest m 1 x := by
  constructor
  · rintro ⟨b, r, rfl, hb, h1, h2⟩
    rw [List.mem_singleton.mp hb] at h1 ⊢
    exact ⟨Parted.mk h0 (self_nparts h0 hm) h1, by rw [List.length_cons]; omega⟩
  · rintro ⟨h1, h2⟩
    obtain ⟨b, r, rfl, hb, hr⟩ := h1.inv h0
    rw [List.length_cons] at h2
    have hr0 : r = [] := List.eq_nil_of_length_eq_zero (by omega)
    subst hr0
    have hz : m ^^^ b = 0 := hr.zero
    have e : b = m := by
      have h3 : m ^^^ (m ^^^ b) = m ^^^ 0 := by rw [hz]
      rw [← Nat.xor_assoc, Nat.xor_self, Nat.zero_xor, Nat.xor_zero] at h3
      exact h3
    subst e
    exact ⟨b, [], rfl, List.mem_singleton.mpr rfl, hr, Nat.zero_le _⟩
theorem post_bought {case_ : Counts} {pages : List Counts} {t : Nat} (h8 : pages.length ≤ 8) {out : Option Found} (h : Post (fun b => lacks case_ (wants case_.length pages b)) (Rest (allOf pages) t) (zeros case_.length) [] none out) :
    (out = none ∧ bought case_ pages t = none) ∨ ∃ r, out = some (total (missing case_ pages r), missing case_ pages r, r) ∧ bought case_ pages t = some r := by
  rcases h with ⟨h1, h2⟩ | ⟨x, h1, h2, _⟩
  · exact .inl ⟨h1, (bought_none h8).mpr fun x hx hl => h2 x ⟨hx, hl⟩⟩
  · exact .inr ⟨x, by rw [h2, List.nil_append]; rfl, (bought_iff h8).mpr h1⟩
end TC
end
section
set_option linter.all false
namespace TC
open Sx07
def andNot (f s : Nat) : Nat := f ^^^ (f &&& s)
theorem andNot_bit (f s i : Nat) : (andNot f s).testBit i = (f.testBit i && !s.testBit i) := by
  unfold andNot
  rw [Nat.testBit_xor, Nat.testBit_and]
  cases f.testBit i <;> cases s.testBit i <;> rfl
theorem andNot_lt {f s n : Nat} (h : f < 2 ^ n) : andNot f s < 2 ^ n := lt_of_bits fun b hb => by
  rw [andNot_bit, Bool.and_eq_true] at hb
  exact bit_lt h hb.1
def tfrom (m : Nat) : Nat → List Counts → Nat
  | _, [] => 0
  | i, p :: r => (if m.testBit i then total p else 0) + tfrom m (i + 1) r
theorem total_plus : ∀ (a b : Counts), a.length = b.length → total (plus a b) = total a + total b
  | [], [], _ => rfl
  | [], _ :: _, h => by simp at h
  | _ :: _, [], h => by simp at h
  | x :: a, y :: b, h => by
    have ih := total_plus a b (by simpa using h)
    have e : plus (x :: a) (y :: b) = (x + y) :: plus a b := rfl
    rw [e, total_cons, total_cons, total_cons, ih]; omega
theorem total_wfrom {m k : Nat} : ∀ {l : List Counts} {i : Nat} {c : Counts}, c.length = k → (∀ p ∈ l, p.length = k) → total (wfrom m i l c) = total c + tfrom m i l
  | [], _, c, _, _ => by rw [wfrom, tfrom]; rfl
  | p :: r, i, c, hc, hl => by
    have hp := hl p (List.mem_cons_self ..)
    have hr := fun q hq => hl q (List.mem_cons_of_mem p hq)
    rw [wfrom, tfrom]
    split
    · rw [total_wfrom (plus_length hc hp) hr, total_plus _ _ (hc.trans hp.symm)]; omega
    · rw [total_wfrom hc hr]; omega
theorem total_zeros (k : Nat) : total (zeros k) = 0 := by
  unfold zeros
  induction k with
  | zero => rfl
  | succ k ih => rw [List.replicate_succ, total_cons, ih]
theorem setFor_from (s f : Nat) : ∀ (l : List Counts) (i a : Nat), ((l.zipIdx i).map fun x => if f.testBit x.2 = true ∧ s.testBit x.2 = false then total x.1 else 0).foldl (fun (a b : Nat) => a + b) a = a + tfrom (andNot f s) i l
  | [], _, _ => rfl
  | p :: r, i, a => by
    rw [List.zipIdx_cons, List.map_cons, List.foldl_cons, setFor_from s f r (i + 1), tfrom, andNot_bit]
    cases e1 : f.testBit i <;> cases e2 : s.testBit i <;> simp [e1, e2] <;> omega
theorem setFor_eq {k : Nat} {pages : List Counts} (h : ∀ p ∈ pages, p.length = k) (s f : Nat) : setFor pages s f = total (wants k pages (andNot f s)) := by
  unfold setFor
  rw [setFor_from, wants_eq, total_wfrom (by unfold zeros; rw [List.length_replicate]) h, total_zeros]
structure BestAt (fit : Nat → Bool) (Y : Nat → Nat) (f s : Nat) (p : Nat × Nat) : Prop where
  mem : ∃ u, within u s = true ∧ p.2 = f ||| u ∧ fit p.2 = true ∧ p.1 = Y p.2
  le : ∀ u, within u s = true → fit (f ||| u) = true → p.1 < Y (f ||| u) ∨ (p.1 = Y (f ||| u) ∧ p.2 ≤ f ||| u)
def Choice (fit : Nat → Bool) (Y : Nat → Nat) (f s : Nat) (B : Nat → Nat × Nat) (q : Nat × Nat) : Prop := (∃ b ∈ bitsL s, q = B (s ^^^ b)) ∨ (fit (f ||| s) = true ∧ q = (Y (f ||| s), f ||| s))
theorem bit_within {s i : Nat} (hi : s.testBit i = true) : within (s ^^^ 2 ^ i) s = true := within_iff.mpr fun b hb => by
  rw [← sub_xor hi, testBit_sub hi, Bool.and_eq_true] at hb
  exact hb.1
theorem bit_less {s i : Nat} (hi : s.testBit i = true) : s ^^^ 2 ^ i < s := by
  rw [← sub_xor hi]
  have := two_pow_le hi
  have := Nat.two_pow_pos i
  omega
theorem bitsL_less {s b : Nat} (hs : s < 2 ^ 16) (hb : b ∈ bitsL s) : s ^^^ b < s := by
  obtain ⟨i, hi, rfl⟩ := (mem_bitsL hs).mp hb
  exact bit_less hi
theorem best_step {fit : Nat → Bool} {Y : Nat → Nat} {f s : Nat} {B : Nat → Nat × Nat} {p : Nat × Nat} (hs : s < 2 ^ 16) (hB : ∀ b ∈ bitsL s, BestAt fit Y f (s ^^^ b) (B (s ^^^ b))) (hp : Choice fit Y f s B p)
    (hl : ∀ q, Choice fit Y f s B q → p.1 < q.1 ∨ (p.1 = q.1 ∧ p.2 ≤ q.2)) : BestAt fit Y f s p := by
  refine ⟨?_, fun u hu hf => ?_⟩
  · rcases hp with ⟨b, hb, rfl⟩ | ⟨hf, rfl⟩
    · obtain ⟨i, hi, rfl⟩ := (mem_bitsL hs).mp hb
      obtain ⟨u, h1, h2⟩ := (hB _ hb).mem
      exact ⟨u, within_iff.mpr fun j hj => within_iff.mp (bit_within hi) j (within_iff.mp h1 j hj), h2⟩
    · exact ⟨s, within_self s, rfl, hf, rfl⟩
  · by_cases e : u = s
    · subst e
      exact hl _ (.inr ⟨hf, rfl⟩)
    · have : ∃ i, s.testBit i = true ∧ u.testBit i = false := by
        apply Classical.byContradiction
        intro hn
        apply e
        apply Nat.eq_of_testBit_eq
        intro i
        cases e1 : u.testBit i with
        | true => exact (within_iff.mp hu i e1).symm
        | false =>
          cases e2 : s.testBit i with
          | false => rfl
          | true => exact absurd ⟨i, e2, e1⟩ hn
      obtain ⟨i, h1, h2⟩ := this
      have hb : 2 ^ i ∈ bitsL s := (mem_bitsL hs).mpr ⟨i, h1, rfl⟩
      have hu' : within u (s ^^^ 2 ^ i) = true := within_iff.mpr fun j hj => by
        rw [← sub_xor h1, testBit_sub h1, within_iff.mp hu j hj, decide_eq_false (fun z => by subst z; rw [h2] at hj; cases hj)]; rfl
      have h3 := (hB _ hb).le u hu' hf
      have h4 := hl _ (.inl ⟨_, hb, rfl⟩)
      omega
theorem choice_ex {fit : Nat → Bool} {Y : Nat → Nat} {f s : Nat} {B : Nat → Nat × Nat} (hs : s < 2 ^ 16) (hf : fit f = true) : ∃ q, Choice fit Y f s B q := by
  by_cases h0 : s = 0
  · subst h0
    exact ⟨_, .inr ⟨by rw [Nat.or_zero]; exact hf, rfl⟩⟩
  · obtain ⟨is, e, _⟩ := bitsL_cons h0 hs
    exact ⟨_, .inl ⟨2 ^ lowest s, by rw [e]; exact List.mem_cons_self .., rfl⟩⟩
def bestPlan (case_ : Counts) (pages : List Counts) (l : List Nat) (s : Nat) : Plan := (plan case_ pages s l).getD (0, [])
structure Formes (case_ : Counts) (pages : List Counts) (l : List Nat) : Prop where
  lt : ∀ f ∈ l, f < 2 ^ pages.length
  fits : ∀ f ∈ l, Sx07.fits case_ pages f = true
theorem bestPlan_is {case_ : Counts} {pages : List Counts} (h : ∀ p ∈ pages, p.length = case_.length) {l : List Nat} (hl : Formes case_ pages l) {s : Nat} (hs : s < 2 ^ pages.length) : plan case_ pages s l = some (bestPlan case_ pages l s) := by
  unfold bestPlan
  cases e : plan case_ pages s l with
  | some p => rfl
  | none =>
    obtain ⟨f, hf, h1⟩ := (plan_none_iff h hs hl.lt).mp e
    rw [hl.fits f hf] at h1; cases h1
theorem stands_or {case_ : Counts} {pages : List Counts} {s f m : Nat} (hs : s < 2 ^ pages.length) (hf : f < 2 ^ pages.length) : m ∈ stands case_ pages s f ↔ ∃ u, within u s = true ∧ m = f ||| u ∧ fits case_ pages m = true := by
  rw [mem_stands]
  constructor
  · rintro ⟨h1, h2, h3, h4⟩
    refine ⟨m &&& s, within_iff.mpr fun i hi => ?_, Nat.eq_of_testBit_eq fun i => ?_, h4⟩
    · rw [Nat.testBit_and, Bool.and_eq_true] at hi; exact hi.2
    · rw [Nat.testBit_or, Nat.testBit_and]
      have a1 := within_iff.mp h2 i
      have a2 := within_iff.mp h3 i
      rw [Nat.testBit_or] at a2
      cases e1 : m.testBit i <;> cases e2 : f.testBit i <;> cases e3 : s.testBit i <;> simp_all
  · rintro ⟨u, h1, rfl, h3⟩
    refine ⟨Nat.or_lt_two_pow hf (lt_of_bits fun b hb => bit_lt hs (within_iff.mp h1 b hb)), within_iff.mpr fun i hi => ?_, within_iff.mpr fun i hi => ?_, h3⟩
    · rw [Nat.testBit_or, hi]; rfl
    · rw [Nat.testBit_or, Bool.or_eq_true] at hi
      rw [Nat.testBit_or, Bool.or_eq_true]
      rcases hi with hi | hi
      · exact .inr hi
      · exact .inl (within_iff.mp h1 i hi)
theorem plan_step {case_ : Counts} {pages : List Counts} (h : ∀ p ∈ pages, p.length = case_.length) {f : Nat} {l : List Nat} (hl : Formes case_ pages (f :: l)) {s : Nat} (hs : s < 2 ^ pages.length) {p : Nat × Nat} (hb : BestAt (fits case_ pages) (fun m => (bestPlan case_ pages l m).1) f s p) :
    bestPlan case_ pages (f :: l) s = (setFor pages s f + p.1, p.2 :: (bestPlan case_ pages l p.2).2) ∧ p.2 < 2 ^ pages.length := by
  have hf := hl.lt f (List.mem_cons_self ..)
  have hl' : Formes case_ pages l := ⟨fun g hg => hl.lt g (List.mem_cons_of_mem _ hg), fun g hg => hl.fits g (List.mem_cons_of_mem _ hg)⟩
  obtain ⟨p1, m⟩ := p
  obtain ⟨u, hu1, hu2, hu3, hu4⟩ := hb.mem
  have hu2 : m = f ||| u := hu2
  have hu4 : p1 = (bestPlan case_ pages l m).1 := hu4
  have hm : m ∈ stands case_ pages s f := (stands_or hs hf).mpr ⟨u, hu1, hu2, hu3⟩
  have hmlt : m < 2 ^ pages.length := (mem_stands.mp hm).1
  have hpm := (plan_iff hmlt).mp (bestPlan_is h hl' hmlt)
  refine ⟨?_, hmlt⟩
  have key : LeastP (fun x => Run case_ pages s (f :: l) x.2 ∧ x.1 = costOf pages s (f :: l) x.2) (setFor pages s f + p1, m :: (bestPlan case_ pages l m).2) := by
    refine ⟨⟨.cons hm hpm.mem.1, ?_⟩, fun x hx => ?_⟩
    · show setFor pages s f + p1 = setFor pages s f + costOf pages m l (bestPlan case_ pages l m).2
      rw [hu4, hpm.mem.2]
    · obtain ⟨x1, x2⟩ := x
      obtain ⟨g1, g2⟩ := hx
      have g1' : Run case_ pages s (f :: l) x2 := g1
      cases g1' with
      | @cons _ _ m' _ row hm' hr =>
        have g3 : x1 = setFor pages s f + costOf pages m' l row := g2
        have hm'lt : m' < 2 ^ pages.length := (mem_stands.mp hm').1
        have hpm' := (plan_iff hm'lt).mp (bestPlan_is h hl' hm'lt)
        obtain ⟨u', k1, k2, k3⟩ := (stands_or hs hf).mp hm'
        have k4 := hb.le u' k1 (by rw [← k2]; exact k3)
        rw [← k2] at k4
        dsimp only at k4
        have k5 := hpm'.least (costOf pages m' l row, row) ⟨hr, rfl⟩
        have k6 : (bestPlan case_ pages l m').1 ≤ costOf pages m' l row := by
          rcases k5 with k5 | k5
          · rw [k5]; exact Nat.le_refl _
          · rcases better_iff.mp k5 with z | ⟨z, _⟩
            · exact Nat.le_of_lt z
            · exact Nat.le_of_eq z
        by_cases hlt : p1 < costOf pages m' l row
        · right; rw [better_iff]; left
          show setFor pages s f + p1 < x1
          omega
        · have e1 : p1 = costOf pages m' l row := by omega
          have e2 : p1 = (bestPlan case_ pages l m').1 := by omega
          have e3 : m ≤ m' := by omega
          by_cases hmm : m = m'
          · subst hmm
            rcases k5 with k5 | k5
            · left
              rw [g3, ← e1, k5]
            · rcases better_iff.mp k5 with z | ⟨_, z⟩
              · exfalso
                have z : (bestPlan case_ pages l m).1 < costOf pages m l row := z
                omega
              · right; rw [better_iff]; right
                refine ⟨by show setFor pages s f + p1 = x1; omega, ?_⟩
                show rowLess (m :: (bestPlan case_ pages l m).2) (m :: row) = true
                have z : rowLess (bestPlan case_ pages l m).2 row = true := z
                rw [rowLess_cons, z]; simp
          · right; rw [better_iff]; right
            refine ⟨by show setFor pages s f + p1 = x1; omega, ?_⟩
            show rowLess (m :: _) (m' :: row) = true
            rw [rowLess_cons, decide_eq_true (show m < m' by omega)]; rfl
  have := (plan_iff hs).mpr key
  rw [bestPlan_is h hl hs] at this
  exact Option.some.inj this
theorem bestPlan_nil {case_ : Counts} {pages : List Counts} {s : Nat} (hs : s < 2 ^ pages.length) : bestPlan case_ pages [] s = (0, []) := by
  have e : plan case_ pages s [] = some (0, []) := by
    unfold plan plans
    rw [List.getD_eq_getElem?_getD, List.getElem?_replicate, if_pos hs]; rfl
  unfold bestPlan
  rw [e]; rfl
end TC
end
section
set_option Elab.async false
set_option linter.all false
set_option maxRecDepth 100000
set_option maxHeartbeats 2000000
namespace TC
open PySem PySem.Spec PyProof.Rows L2
theorem same_refl (H : Hp) : Same H H := fun _ _ e => e
theorem mt_bitlen {X : Cx} : MtR X "int.bit_length" (fun x xs H Q => ∃ n : Int, x = .int n ∧ xs = [] ∧ Q (.int (((Builtin.Int.intBits n : Nat) : Int))) H) := by
  intro pins s σ H x xs v us Q I rx rs h
  obtain ⟨n, rfl, rfl, h⟩ := h
  obtain ⟨t, rfl⟩ := rx
  cases rs
  refine call_gives PySem.F.slot_int_bit_length (typeIs_int _ _ _) PySem.F.entry_int_bit_length (PySem.F.args_int_bit_length_1 _) (PySem.AutoIntG2.int_bit_length_int_0 n t) ?_
  exact ⟨.int _, H, I.tok _, ⟨_, rfl⟩, h⟩
theorem intBits_nat (m : Nat) : m < 2 ^ Builtin.Int.intBits (m : Int) := by
  unfold Builtin.Int.intBits
  split
  · rename_i h
    have : (m : Int) = 0 := eq_of_beq h
    have : m = 0 := by omega
    subst this; decide
  · rw [Int.natAbs_natCast]
    exact Nat.lt_log2_self
theorem intBits_le {m n : Nat} (h : m < 2 ^ n) : Builtin.Int.intBits (m : Int) ≤ n := by
  unfold Builtin.Int.intBits
  split
  · exact Nat.zero_le _
  · rename_i h0
    rw [Int.natAbs_natCast]
    have hm : m ≠ 0 := fun z => by subst z; exact h0 rfl
    have := (Nat.log2_lt hm).mpr h
    omega
section
variable {K : PySem.W.Frag} {a : Addr} {g : TG} {σ : L2.St} {tt : TT} {te : TE} {vs : List Nat} {H1 : Hp} {D : Addr} {Qd : Hp → Prop}
theorem fm_take {α : Type} {l : List α} (p : α → Bool) (f : α → V) {i : Nat} {x : α} (h : l[i]? = some x) : ((l.take (i + 1)).filter p).map f = ((l.take i).filter p).map f ++ (if p x = true then [f x] else []) := by
  rw [take_snoc' h, List.filter_append, List.map_append]
  congr 1
  by_cases hp : p x = true
  · rw [if_pos hp, List.filter_cons, if_pos hp]; rfl
  · rw [if_neg hp, List.filter_cons, if_neg hp]; rfl
theorem lc_listF {α : Type} {ea : α → V} {as : List α} (p : α → Bool) (f : α → V) (hD : H1 D = Option.none) (ha : SqL K H1 a (as.map ea)) (hsz : as.length ≤ sizeLine)
    (hs : ∀ (x : α) (H : Hp) (R : L2.St → Hp → Prop), x ∈ as → Same H1 H → (∀ σ2, wipe σ2 vs = wipe σ vs → (∀ Q : Bool → Hp → Prop, (∀ H', Same H H' → Q (p x) H') → tt σ2 H Q) → (p x = true → ∀ (H' : Hp) (Q : VK), Same H H' → (∀ H'', Same H' H'' → Q (f x) H'') → te σ2 H' Q) → R σ2 H) → g (ea x) (wipe σ vs) H R)
    (hd : ∀ H, Same H1 H → H D = some (.lst ((as.filter p).map f)) → Qd H) :
    ∃ W : Nat → Nat → Hp → Prop, (∃ m, W 0 m (upd H1 D (.lst []))) ∧ ∀ i m H, W i m H →
      ((Itl K a).stop i H ∧ Qd H) ∨ ((Itl K a).go i H ∧ ∃ Nx : Hp → Prop, (∀ H', Nx H' → ∃ m', m' < m ∧ W (i + 1) m' H') ∧ ∀ x H', (Itl K a).yld i H x H' → g x (wipe σ vs) H' fun σ2 H2 => wipe σ2 vs = wipe σ vs ∧ tt σ2 H2 fun b H3 =>
        if b = true then te σ2 H3 fun y H4 => ∃ acc, H4 D = some (.lst acc) ∧ acc.length < sizeLine ∧ Nx (upd H4 D (.lst (acc ++ [y]))) else Nx H3) := by
  refine lc_list (xs := as.map ea) (fun i H => Same H1 H ∧ H D = some (.lst (((as.take i).filter p).map f))) ⟨same_new hD, upd_same⟩ (fun i H _ ⟨s, _⟩ => s.seq ha) ?_ (fun H ⟨s, e⟩ => hd H s (by rw [List.length_map, List.take_length] at e; exact e))
  intro i x H hx ⟨s, e⟩
  obtain ⟨x, hx', rfl⟩ := getElem?_map_some hx
  refine hs x H _ (List.mem_of_getElem? hx') s fun σ2 hw k1 k2 => ⟨hw, k1 _ fun H3 s3 => ?_⟩
  have e2 := fm_take p f hx'
  by_cases hp : p x = true
  · rw [if_pos hp]
    rw [if_pos hp] at e2
    refine k2 hp H3 _ s3 fun H4 s4 => ⟨_, s4 _ _ (s3 _ _ e), ?_, same_put (s.trans (s3.trans s4)) hD, ?_⟩
    · rw [List.length_map]
      refine Nat.lt_of_le_of_lt (List.length_filter_le _ _) ?_
      rw [List.length_take]
      have : i < as.length := (List.getElem?_eq_some_iff.mp hx').1
      omega
    · rw [upd_same, e2]
  · rw [if_neg hp]
    rw [if_neg hp, List.append_nil] at e2
    exact ⟨s.trans s3, by rw [e2]; exact s3 _ _ e⟩
theorem lc_rangeF {n : Nat} (p : Nat → Bool) (f : Nat → V) (hD : H1 D = Option.none) (hsz : n ≤ sizeLine)
    (hs : ∀ (x : Nat) (H : Hp) (R : L2.St → Hp → Prop), x < n → Same H1 H → (∀ σ2, wipe σ2 vs = wipe σ vs → (∀ Q : Bool → Hp → Prop, (∀ H', Same H H' → Q (p x) H') → tt σ2 H Q) → (p x = true → ∀ (H' : Hp) (Q : VK), Same H H' → (∀ H'', Same H' H'' → Q (f x) H'') → te σ2 H' Q) → R σ2 H) → g (.int (x : Nat)) (wipe σ vs) H R)
    (hd : ∀ H, Same H1 H → H D = some (.lst (((List.range n).filter p).map f)) → Qd H) :
    ∃ W : Nat → Nat → Hp → Prop, (∃ m, W 0 m (upd H1 D (.lst []))) ∧ ∀ i m H, W i m H →
      ((Itr 0 n).stop i H ∧ Qd H) ∨ ((Itr 0 n).go i H ∧ ∃ Nx : Hp → Prop, (∀ H', Nx H' → ∃ m', m' < m ∧ W (i + 1) m' H') ∧ ∀ x H', (Itr 0 n).yld i H x H' → g x (wipe σ vs) H' fun σ2 H2 => wipe σ2 vs = wipe σ vs ∧ tt σ2 H2 fun b H3 =>
        if b = true then te σ2 H3 fun y H4 => ∃ acc, H4 D = some (.lst acc) ∧ acc.length < sizeLine ∧ Nx (upd H4 D (.lst (acc ++ [y]))) else Nx H3) := by
  refine lc_range (fun i H => Same H1 H ∧ H D = some (.lst (((List.range i).filter p).map f))) ⟨same_new hD, upd_same⟩ ?_ (fun H ⟨s, e⟩ => hd H s e)
  intro i H hi ⟨s, e⟩
  rw [Int.zero_add]
  refine hs i H _ hi s fun σ2 hw k1 k2 => ⟨hw, k1 _ fun H3 s3 => ?_⟩
  have e2 : ((List.range (i + 1)).filter p).map f = ((List.range i).filter p).map f ++ (if p i = true then [f i] else []) := by
    rw [List.range_succ, List.filter_append, List.map_append]
    congr 1
    by_cases hp : p i = true
    · rw [if_pos hp, List.filter_cons, if_pos hp]; rfl
    · rw [if_neg hp, List.filter_cons, if_neg hp]; rfl
  by_cases hp : p i = true
  · rw [if_pos hp]
    rw [if_pos hp] at e2
    refine k2 hp H3 _ s3 fun H4 s4 => ⟨_, s4 _ _ (s3 _ _ e), ?_, same_put (s.trans (s3.trans s4)) hD, ?_⟩
    · rw [List.length_map]
      refine Nat.lt_of_le_of_lt (List.length_filter_le _ _) ?_
      rw [List.length_range]
      omega
    · rw [upd_same, e2]
  · rw [if_neg hp]
    rw [if_neg hp, List.append_nil] at e2
    exact ⟨s.trans s3, by rw [e2]; exact s3 _ _ e⟩
theorem lc_rangeP {n : Nat} (f : Nat → V) (hD : H1 D = Option.none) (hsz : n ≤ sizeLine)
    (hs : ∀ (x : Nat) (H : Hp) (R : L2.St → Hp → Prop), x < n → Same H1 H → (∀ σ2, wipe σ2 vs = wipe σ vs → (∀ Q : VK, Q (f x) H → te σ2 H Q) → R σ2 H) → g (.int (x : Nat)) (wipe σ vs) H R)
    (hd : ∀ H, Same H1 H → H D = some (.lst ((List.range n).map f)) → Qd H) :
    ∃ W : Nat → Nat → Hp → Prop, (∃ m, W 0 m (upd H1 D (.lst []))) ∧ ∀ i m H, W i m H →
      ((Itr 0 n).stop i H ∧ Qd H) ∨ ((Itr 0 n).go i H ∧ ∃ Nx : Hp → Prop, (∀ H', Nx H' → ∃ m', m' < m ∧ W (i + 1) m' H') ∧ ∀ x H', (Itr 0 n).yld i H x H' → g x (wipe σ vs) H' fun σ2 H2 => wipe σ2 vs = wipe σ vs ∧ tYes σ2 H2 fun b H3 =>
        if b = true then te σ2 H3 fun y H4 => ∃ acc, H4 D = some (.lst acc) ∧ acc.length < sizeLine ∧ Nx (upd H4 D (.lst (acc ++ [y]))) else Nx H3) := by
  refine lc_range (fun i H => Same H1 H ∧ H D = some (.lst ((List.range i).map f))) ⟨same_new hD, upd_same⟩ ?_ (fun H ⟨s, e⟩ => hd H s e)
  intro i H hi ⟨s, e⟩
  rw [Int.zero_add]
  refine hs i H _ hi s fun σ2 hw k => ⟨hw, ?_⟩
  unfold tYes
  dsimp only
  rw [if_pos rfl]
  refine k _ ⟨_, e, ?_, same_put s hD, ?_⟩
  · rw [List.length_map, List.length_range]; omega
  · rw [upd_same, List.range_succ, List.map_append]; rfl
theorem lc_listA {α : Type} {ea : α → V} {as : List α} (h : α → List Nat) (hD : H1 D = Option.none) (ha : SqL K H1 a (as.map ea)) (hsz : as.length ≤ sizeLine)
    (hs : ∀ (x : α) (H : Hp) (R : L2.St → Hp → Prop), x ∈ as → Same H1 H → (∀ σ2, wipe σ2 vs = wipe σ vs → (∀ Q : VK, (∀ (H' : Hp) (r : Addr), Same H H' → H r = Option.none → H' r = some (.lst (vN (h x))) → Q (.ref r) H') → te σ2 H Q) → R σ2 H) → g (ea x) (wipe σ vs) H R)
    (hd : ∀ (H : Hp) (ys : List Addr), Same H1 H → H D = some (.lst (ys.map V.ref)) → ys.length = as.length → (∀ (j : Nat) (y : Addr) (x : α), ys[j]? = some y → as[j]? = some x → H y = some (.lst (vN (h x)))) → Qd H) :
    ∃ W : Nat → Nat → Hp → Prop, (∃ m, W 0 m (upd H1 D (.lst []))) ∧ ∀ i m H, W i m H →
      ((Itl K a).stop i H ∧ Qd H) ∨ ((Itl K a).go i H ∧ ∃ Nx : Hp → Prop, (∀ H', Nx H' → ∃ m', m' < m ∧ W (i + 1) m' H') ∧ ∀ x H', (Itl K a).yld i H x H' → g x (wipe σ vs) H' fun σ2 H2 => wipe σ2 vs = wipe σ vs ∧ tYes σ2 H2 fun b H3 =>
        if b = true then te σ2 H3 fun y H4 => ∃ acc, H4 D = some (.lst acc) ∧ acc.length < sizeLine ∧ Nx (upd H4 D (.lst (acc ++ [y]))) else Nx H3) := by
  refine lc_list (xs := as.map ea) (fun i H => Same H1 H ∧ ∃ ys : List Addr, H D = some (.lst (ys.map V.ref)) ∧ ys.length = i ∧ ∀ (j : Nat) (y : Addr) (x : α), ys[j]? = some y → as[j]? = some x → H y = some (.lst (vN (h x))) ∧ y ≠ D)
    ⟨same_new hD, [], upd_same, rfl, fun j y x q => by simp at q⟩ (fun i H _ ⟨s, _⟩ => s.seq ha) ?_ (fun H ⟨s, ys, e, hl, q⟩ => hd H ys s e (by rw [hl, List.length_map]) fun j y x h1 h2 => (q j y x h1 h2).1)
  intro i x H hx ⟨s, ys, e, hl, q⟩
  obtain ⟨x, hx', rfl⟩ := getElem?_map_some hx
  have hi : i < as.length := (List.getElem?_eq_some_iff.mp hx').1
  refine hs x H _ (List.mem_of_getElem? hx') s fun σ2 hw k => ⟨hw, ?_⟩
  unfold tYes
  dsimp only
  rw [if_pos rfl]
  refine k _ fun H' r s' hr hr' => ⟨_, s' _ _ e, ?_, same_put (s.trans s') hD, ys ++ [r], ?_, ?_, ?_⟩
  · rw [List.length_map, hl]; omega
  · rw [upd_same, List.map_append]; rfl
  · rw [List.length_append, hl]; rfl
  · intro j y x' h1 h2
    have hrD : r ≠ D := fun z => by subst z; rw [e] at hr; cases hr
    by_cases hj : j < ys.length
    · rw [List.getElem?_append_left hj] at h1
      obtain ⟨q1, q2⟩ := q j y x' h1 h2
      exact ⟨by rw [upd_ne q2]; exact s' _ _ q1, q2⟩
    · have hj' : j = i := by
        have := (List.getElem?_eq_some_iff.mp h1).1
        rw [List.length_append, List.length_singleton] at this
        omega
      subst hj'
      rw [List.getElem?_append_right (by omega), hl, Nat.sub_self] at h1
      have h1' : r = y := Option.some.inj h1
      subst h1'
      rw [hx'] at h2
      cases h2
      exact ⟨by rw [upd_ne hrD]; exact hr', hrD⟩
end
theorem for_rev {K : PySem.W.Frag} {a : Addr} {xs : List V} {g : TG} {tb : TS} {D : Ends} {σ : L2.St} {H : Hp} (Pv : Nat → L2.St → Hp → Prop) (h0 : Pv xs.length σ H) (hl : ∀ i σ H, i ≤ xs.length → Pv i σ H → SqL K H a xs)
    (hs : ∀ i x σ H, xs[i]? = some x → Pv (i + 1) σ H → g x σ H fun σ2 H2 => tb { D with nx := Pv i, ct := Pv i, bk := D.nx } σ2 H2) (hd : ∀ σ H, Pv 0 σ H → D.nx σ H) :
    ∃ W : Nat → Nat → L2.St → Hp → Prop, (∃ m, W 0 m σ H) ∧ ∀ i m σ H, W i m σ H →
      ((Itv K a xs.length).stop i H ∧ D.nx σ H) ∨ ((Itv K a xs.length).go i H ∧ ∃ N : L2.St → Hp → Prop, (∀ σ' H', N σ' H' → ∃ m', m' < m ∧ W (i + 1) m' σ' H') ∧ ∀ x H', (Itv K a xs.length).yld i H x H' → g x σ H' fun σ2 H2 => tb { D with nx := N, ct := N, bk := D.nx } σ2 H2) := by
  refine ⟨fun i m σ H => m = xs.length - i ∧ i ≤ xs.length ∧ Pv (xs.length - i) σ H, ⟨xs.length, by simp, Nat.zero_le _, h0⟩, ?_⟩
  rintro i m σ H ⟨rfl, hi, p⟩
  by_cases hlt : i < xs.length
  · have q := hl _ σ H (Nat.sub_le _ _) p
    have hx : xs.length - 1 - i < xs.length := by omega
    have e : xs.length - i = (xs.length - 1 - i) + 1 := by omega
    refine .inr ⟨⟨hlt, xs, xs[xs.length - 1 - i], q, by simp [hx]⟩, Pv (xs.length - 1 - i), fun σ' H' p' => ⟨xs.length - (i + 1), by omega, rfl, hlt, by rw [show xs.length - (i + 1) = xs.length - 1 - i by omega]; exact p'⟩, fun v H' y => ?_⟩
    obtain ⟨rfl, h1⟩ := y
    rw [e] at p
    exact hs _ v σ _ (h1 xs q) p
  · have e : i = xs.length := by omega
    subst e
    rw [Nat.sub_self] at p
    exact .inl ⟨Nat.le_refl _, hd σ H p⟩
end TC
end
section
set_option Elab.async false
set_option linter.all false
set_option maxRecDepth 100000
set_option maxHeartbeats 2000000
namespace TC
open PySem PySem.Spec PyProof.Rows L2
section
variable {pr : Program} {w : World} {A : Around} {R : Result → Shared → Prop} {it : Addr} {fp wr : List Addr} {n : Nat} {P : Nat → Value → Prop} {St' : Nat → Heap → Prop}
def Keeps (wr : List Addr) (S : Addr) (h h' : Heap) : Prop := ∀ b o, b ∉ wr → b ≠ S → h.get? b = some o → h'.get? b = some o
theorem Keeps.trans {wr : List Addr} {S : Addr} {h h' h'' : Heap} (a : Keeps wr S h h') (b : Keeps wr S h' h'') : Keeps wr S h h'' := fun x o h1 h2 e => b x o h1 h2 (a x o h1 h2 e)
theorem minLoop (W : Walks pr w A.in1 it fp wr n P St') (bt : Nat → Nat → Bool) (G : Heap → Prop) (S : Addr) (hSf : S ∉ fp)
    (cmp : ∀ i j u v (s : Shared) (Q : Value → Shared → Prop) (E : Value → Shared → Prop), G s.heap → P i u → P j v → Q (.bool (bt i j)) s → wpAny (model pr w) A.in1 (richCompare .Lt u v) Q E s)
    (gk : ∀ h h', Keeps wr S h h' → G h → G h') :
    ∀ (d j : Nat) (s : Shared) (vb : Value) (c : Nat), n - (j + 1) = d → j + 1 ≤ n → St' (j + 1) s.heap → P (argBest bt j) vb → G s.heap →
      s.heap.get? S = some { cls := .type "list", dict := none, data := .seq #[vb, vb] c, slots := #[] } →
      (∀ v h' tk, P (argBest bt (n - 1)) v → Keeps wr S s.heap h' → R (.ok (.ret v)) { s with heap := h', toks := tk }) → codeAny (model pr w) A (.builtin "min.loop" ⟨[.ref it, .none, .ref S], []⟩) R s := by
  have nSw : S ∉ wr := fun z => hSf (W.sub _ z)
  have nm : (toString "min" ++ toString ".loop" : String) = "min.loop" := by decide
  intro d
  induction d with
  | zero =>
    intro j s vb c hd hj st hb hG hS fin
    have ej : j + 1 = n := by omega
    refine codeAny_builtin PySem.F.entry_min_loop ?_
    rw [Around.under_plainId PySem.F.plain_min_loop _]; show wpAny _ A.in1 (seqItems? (.ref S) >>= _) _ _ s
    refine wpAny_bind (wpAny_seqItems hS rfl ?_); show wpAny _ A.in1 (tryCatch (pyNext (.ref it)) _ >>= _) _ _ s
    refine wpAny_bind (wpAny_tryCatch (W.done s _ _ (ej ▸ st) fun h1 tk k1 => ?_)); show wpAny _ A.in1 (updateSeq S (fun _ => #[]) >>= _) _ _ _
    refine wpAny_bind (wpAny_updateSeq (k1 S _ nSw hS) rfl (wpAny_bind (wpAny_letGo (wpAny_pure ?_))))
    exact fin vb _ tk (by rw [← ej]; exact hb) fun b o b1 b2 e => (Heap.get?_update_other _ _ (Ne.symm b2)).trans (k1 b o b1 e)
  | succ d ih =>
    intro j s vb c hd hj st hb hG hS fin
    have lt : j + 1 < n := by omega
    refine codeAny_builtin PySem.F.entry_min_loop ?_
    rw [Around.under_plainId PySem.F.plain_min_loop _]; show wpAny _ A.in1 (seqItems? (.ref S) >>= _) _ _ s
    refine wpAny_bind (wpAny_seqItems hS rfl ?_); show wpAny _ A.in1 (tryCatch (pyNext (.ref it)) _ >>= _) _ _ s
    refine wpAny_bind (wpAny_tryCatch (W.item (j + 1) s _ _ lt st fun v h1 tk hv st1 k1 => ?_))
    have hS1 := k1 S _ nSw hS
    have K1 : Keeps wr S s.heap h1 := fun b o b1 _ e => k1 b o b1 e
    show wpAny _ A.in1 (tryCatch (holding [v, v] (richCompare .Lt v vb >>= _)) _ >>= _) _ _ _
    refine wpAny_bind (wpAny_tryCatch (wpAny_holding (wpAny_bind (cmp (j + 1) (argBest bt j) v vb _ _ _ (gk _ _ K1 hG) hv hb ?_))))
    refine wpAny_bind (wpAny_holding (wpAny_truthy_bool (wpAny_bind (wpAny_letGo (wpAny_pure ?_)))))
    cases e : bt (j + 1) (argBest bt j) with
    | true =>
      simp only [if_true]
      refine wpAny_bind (wpAny_updateSeq hS1 rfl (wpAny_bind (wpAny_letGo ?_)))
      have K2 : ∀ x, Keeps wr S h1 (h1.update S x) := fun x b o _ b2 q => (Heap.get?_update_other _ _ (Ne.symm b2)).trans q
      rw [nm]
      refine wpAny_pure ⟨plainId_quiet PySem.F.plain_min_loop _, ih (j + 1) _ v _ (by omega) lt (W.frame _ _ _ st1 fun b bf o q => (Heap.get?_update_other _ _ (fun z : S = b => hSf (by rw [z]; exact bf))).trans q) (by simp only [argBest, e, if_true]; exact hv) (gk _ _ (K1.trans (K2 _)) hG) (Heap.get?_update_self _ hS1 rfl) fun u h2 tk2 hu k2 => fin u h2 tk2 hu ((K1.trans (K2 _)).trans k2)⟩
    | false =>
      simp only [Bool.false_eq_true, if_false]
      refine wpAny_bind (wpAny_letGo ?_)
      rw [nm]
      exact wpAny_pure ⟨plainId_quiet PySem.F.plain_min_loop _, ih (j + 1) _ vb c (by omega) lt st1 (by simp only [argBest, e, Bool.false_eq_true, if_false]; exact hb) (gk _ _ K1 hG) hS1 fun u h2 tk2 hu k2 => fin u h2 tk2 hu (K1.trans k2)⟩
theorem minLoop0 (W : Walks pr w A.in1 it fp wr n P St') (bt : Nat → Nat → Bool) (G : Heap → Prop) (S : Addr) (hSf : S ∉ fp)
    (cmp : ∀ i j u v (s : Shared) (Q : Value → Shared → Prop) (E : Value → Shared → Prop), G s.heap → P i u → P j v → Q (.bool (bt i j)) s → wpAny (model pr w) A.in1 (richCompare .Lt u v) Q E s)
    (gk : ∀ h h', Keeps wr S h h' → G h → G h') (hn : 0 < n) {s : Shared} {c : Nat} (st : St' 0 s.heap) (hG : G s.heap)
    (hS : s.heap.get? S = some { cls := .type "list", dict := none, data := .seq #[] c, slots := #[] })
    (fin : ∀ v h' tk, P (argBest bt (n - 1)) v → Keeps wr S s.heap h' → R (.ok (.ret v)) { s with heap := h', toks := tk }) :
    codeAny (model pr w) A (.builtin "min.loop" ⟨[.ref it, .none, .ref S], []⟩) R s := by
  have nSw : S ∉ wr := fun z => hSf (W.sub _ z)
  have nm : (toString "min" ++ toString ".loop" : String) = "min.loop" := by decide
  refine codeAny_builtin PySem.F.entry_min_loop ?_
  rw [Around.under_plainId PySem.F.plain_min_loop _]; show wpAny _ A.in1 (seqItems? (.ref S) >>= _) _ _ s
  refine wpAny_bind (wpAny_seqItems hS rfl ?_); show wpAny _ A.in1 (tryCatch (pyNext (.ref it)) _ >>= _) _ _ s
  refine wpAny_bind (wpAny_tryCatch (W.item 0 s _ _ hn st fun v h1 tk hv st1 k1 => ?_))
  have hS1 := k1 S _ nSw hS
  have K1 : Keeps wr S s.heap h1 := fun b o b1 _ e => k1 b o b1 e
  have K2 : ∀ x, Keeps wr S h1 (h1.update S x) := fun x b o _ b2 q => (Heap.get?_update_other _ _ (Ne.symm b2)).trans q
  show wpAny _ A.in1 (updateSeq S (fun _ => #[v, v]) >>= _) _ _ _
  refine wpAny_bind (wpAny_updateSeq hS1 rfl ?_)
  rw [nm]
  exact wpAny_pure ⟨plainId_quiet PySem.F.plain_min_loop _, minLoop W bt G S hSf cmp gk _ 0 _ v _ rfl hn (W.frame _ _ _ st1 fun b bf o q => (Heap.get?_update_other _ _ (fun z : S = b => hSf (by rw [z]; exact bf))).trans q) hv (gk _ _ (K1.trans (K2 _)) hG) (Heap.get?_update_self _ hS1 rfl) fun u h2 tk2 hu k2 => fin u h2 tk2 hu ((K1.trans (K2 _)).trans k2)⟩
theorem minCall {E : Value → Shared → Prop} {s : Shared} {x : Value} {Q : Value → Shared → Prop}
    (h : wpAny (model pr w) A.in1 (pyIter x) (fun u s2 => ∃ (it : Addr) (fp wr : List Addr) (n : Nat) (P : Nat → Value → Prop) (St' : Nat → Heap → Prop) (bt : Nat → Nat → Bool) (G : Heap → Prop), u = .ref it ∧ Walks pr w A.in1 it fp wr n P St' ∧ St' 0 s2.heap ∧ (∀ b ∈ fp, b < s2.heap.objs.size) ∧ 0 < n ∧ G s2.heap ∧
      (∀ i j u v (s : Shared) (Q : Value → Shared → Prop) (E : Value → Shared → Prop), G s.heap → P i u → P j v → Q (.bool (bt i j)) s → wpAny (model pr w) A.in1 (richCompare .Lt u v) Q E s) ∧
      (∀ h h', Keeps wr s2.heap.objs.size h h' → G h → G h') ∧ (∀ h', (∀ b o, s2.heap.get? b = some o → h'.get? b = some o) → G s2.heap → G h') ∧
      ∀ v h' tk, P (argBest bt (n - 1)) v → (∀ b o, b ∉ wr → s2.heap.get? b = some o → h'.get? b = some o) → Q v { s2 with heap := h', toks := tk }) E s) :
    wpAny (model pr w) A (call (.builtin "min") [x]) Q E s := by
  have nm : (toString "min" ++ toString ".loop" : String) = "min.loop" := by decide
  refine call_function_tree PySem.F.kind_min PySem.F.plain_min PySem.F.entry_min (PySem.F.args_min1 _) ?_
  show wpAny _ A.in1 (Builtin.Builtins.bindParams "min" ["key", "default"] 0 ⟨[], []⟩ >>= _) _ _ s
  refine wpAny_bind (wpAny_of_eq (show Builtin.Builtins.bindParams "min" ["key", "default"] 0 ⟨[], []⟩ = pure [none, none] from rfl) (wpAny_bind (wpAny_pure (wpAny_bind (wpAny_mono h (fun u s2 q => ?_) fun _ _ e => e)))))
  obtain ⟨it, fp, wr, n, P, St', bt, G, rfl, W, st, hfp, hn, hG, cmp, gk, gn, hQ⟩ := q
  refine wpAny_bind (wpAny_newObj_type ?_)
  have hSf : s2.heap.objs.size ∉ fp := fun z => Nat.lt_irrefl _ (hfp _ z)
  rw [nm]
  refine wpAny_pure ⟨plainId_quiet PySem.F.plain_min_loop _, minLoop0 W bt G s2.heap.objs.size hSf cmp gk hn (W.frame _ _ _ st fun b _ o e => Heap.get?_push_of_some _ e) (gn _ (fun b o e => Heap.get?_push_of_some _ e) hG) (Heap.get?_push_size _ rfl) fun v h1 tk hv k1 => ?_⟩
  exact hQ v h1 tk hv fun b o b1 e => k1 b o b1 (Nat.ne_of_lt (Heap.lt_size e)) (Heap.get?_push_of_some _ e)
end
theorem lexLt_pair (a b c d : Int) : HT.lexLt [a, b] [c, d] = true ↔ a < c ∨ (a = c ∧ b < d) := by
  unfold HT.lexLt
  unfold HT.lexLt
  unfold HT.lexLt
  by_cases h1 : a = c
  · subst h1
    by_cases h2 : b = d
    · subst h2; simp
    · simp [h2]
  · simp [h1]
def pairLt (ps : List (Int × Int)) (i j : Nat) : Bool := HT.lexLt [(ps.getD i (0, 0)).1, (ps.getD i (0, 0)).2] [(ps.getD j (0, 0)).1, (ps.getD j (0, 0)).2]
theorem argBest_pair (ps : List (Int × Int)) : ∀ k, argBest (pairLt ps) k ≤ k ∧ ∀ j, j ≤ k → (ps.getD (argBest (pairLt ps) k) (0, 0)).1 < (ps.getD j (0, 0)).1 ∨ ((ps.getD (argBest (pairLt ps) k) (0, 0)).1 = (ps.getD j (0, 0)).1 ∧ (ps.getD (argBest (pairLt ps) k) (0, 0)).2 ≤ (ps.getD j (0, 0)).2)
  | 0 => ⟨Nat.le_refl _, fun j hj => by
      have : j = 0 := by omega
      subst this
      exact .inr ⟨rfl, Int.le_refl _⟩⟩
  | k + 1 => by
    obtain ⟨h1, h2⟩ := argBest_pair ps k
    unfold argBest
    by_cases h : pairLt ps (k + 1) (argBest (pairLt ps) k) = true
    · rw [if_pos h]
      have h3 := (lexLt_pair _ _ _ _).mp h
      refine ⟨Nat.le_refl _, fun j hj => ?_⟩
      by_cases e : j = k + 1
      · subst e; exact .inr ⟨rfl, Int.le_refl _⟩
      · have h4 := h2 j (by omega)
        omega
    · rw [if_neg h]
      have h3 : ¬ _ := fun z => h ((lexLt_pair _ _ _ _).mpr z)
      refine ⟨by omega, fun j hj => ?_⟩
      by_cases e : j = k + 1
      · subst e; omega
      · exact h2 j (by omega)
def rMinP (K : PySem.W.Frag) : List V → Hp → VK → Prop := fun vs H Q => ∃ (a : Addr) (ts : List Addr) (ps : List (Int × Int)), vs = [V.ref a] ∧ SqL K H a (ts.map V.ref) ∧ ts.length = ps.length ∧ (∀ (j : Nat) (t : Addr) (p : Int × Int), ts[j]? = some t → ps[j]? = some p → SqT K H t [.int p.1, .int p.2]) ∧ 0 < ts.length ∧
  ∀ (j : Nat) (t : Addr) (p : Int × Int), ts[j]? = some t → ps[j]? = some p → (∀ q ∈ ps, p.1 < q.1 ∨ (p.1 = q.1 ∧ p.2 ≤ q.2)) → Q (.ref t) H
theorem vals_refs : ∀ {ts : List Addr} {us : List Value}, Vals (ts.map V.ref) us → us = ts.map Value.ref
  | [], us, h => by
    rw [List.map_nil] at h
    cases h
    rfl
  | b :: bs, us, h => by
    rw [List.map_cons] at h
    cases h with
    | cons r t =>
      cases r
      rw [vals_refs t, List.map_cons]
theorem cr_minP {X : Cx} (hc : X.calm = true) (hu : X.A.units + 1 < cLine) : CallR X (.builtin "min") (rMinP X.K) := by
  intro pins s σ H vs us Q I r h
  obtain ⟨a, ts, ps, rfl, hs, hlen, hat, hne, q⟩ := h
  obtain ⟨its, rv, hl, _⟩ := I.list hs
  rw [Vals.ref1 r]
  have hr := vals_refs rv
  subst hr
  have hG : ∀ (j : Nat) (t : Addr) (p : Int × Int), ts[j]? = some t → ps[j]? = some p → ∃ items : Array Value, IsTup s.heap t items ∧ IntsAre items.toList [p.1, p.2] := by
    intro j t p h1 h2
    obtain ⟨its2, r2, p2, _⟩ := I.tuple (hat j t p h1 h2)
    exact ⟨its2.toArray, p2, intsAre_of (ns := [p.1, p.2]) r2⟩
  refine minCall (iter_any hl.isList fun s₂ e2 st hne' => ?_)
  subst e2
  refine ⟨_, _, _, _, _, _, pairLt ps, fun hp => ∀ b o, s.heap.get? b = some o → hp.get? b = some o, rfl, Walks.list (A := X.A.in1) (I.ok.hd hc) _ a hne' (ts.map Value.ref).toArray, st, ?_, ?_, fun b o e => Heap.get?_push_of_some _ e, ?_, ?_, ?_, ?_⟩
  · intro b hb
    show b < (s.heap.push _).objs.size
    rw [Heap.size_push]
    rcases List.mem_cons.mp hb with rfl | hb
    · exact Nat.lt_succ_self _
    · rcases List.mem_cons.mp hb with rfl | hb
      · obtain ⟨_, e, _⟩ := hl.isList
        exact Nat.lt_succ_of_lt (Heap.lt_size e)
      · cases hb
  · rw [List.size_toArray, List.length_map]; exact hne
  · intro i j u v s1 Q1 E1 g hu' hv' q1
    have get : ∀ (i : Nat) (u : Value), (ts.map Value.ref).toArray[i]? = some u → ∃ t, ts[i]? = some t ∧ u = .ref t := fun i u z => by
      have z' : (ts.map Value.ref)[i]? = some u := by simpa using z
      rw [List.getElem?_map] at z'
      cases e : ts[i]? with
      | none => rw [e] at z'; cases z'
      | some t => rw [e] at z'; exact ⟨t, rfl, (Option.some.inj z').symm⟩
    obtain ⟨t, ht, rfl⟩ := get i u hu'
    obtain ⟨t', ht', rfl⟩ := get j v hv'
    have hi : i < ps.length := by rw [← hlen]; exact (List.getElem?_eq_some_iff.mp ht).1
    have hj : j < ps.length := by rw [← hlen]; exact (List.getElem?_eq_some_iff.mp ht').1
    obtain ⟨i1, g1, a1⟩ := hG i t ps[i] ht (List.getElem?_eq_getElem hi)
    obtain ⟨i2, g2, a2⟩ := hG j t' ps[j] ht' (List.getElem?_eq_getElem hj)
    have up : ∀ {x : Addr} {xs : Array Value}, IsTup s.heap x xs → IsTup s1.heap x xs := fun {x xs} ⟨o, h1, h2⟩ => ⟨o, g _ _ h1, h2⟩
    refine HT.lt_tupInts (up g1) (up g2) a1 a2 hu ?_
    have e : pairLt ps i j = HT.lexLt [ps[i].1, ps[i].2] [ps[j].1, ps[j].2] := by
      unfold pairLt
      rw [List.getD_eq_getElem?_getD, List.getD_eq_getElem?_getD, List.getElem?_eq_getElem hi, List.getElem?_eq_getElem hj]; rfl
    rw [← e]; exact q1
  · intro h h' k g b o e
    have lt := Heap.lt_size e
    refine k b o (fun z => ?_) ?_ (g b o e)
    · rcases List.mem_cons.mp z with z | z
      · rw [z] at lt; exact Nat.lt_irrefl _ lt
      · cases z
    · intro z
      have z' : b = s.heap.objs.size + 1 := z.trans (Heap.size_push ..)
      rw [z'] at lt
      exact Nat.lt_irrefl _ (Nat.lt_of_succ_lt lt)
  · intro h' k g b o e
    exact k b o (g b o e)
  · intro v h' tk hv k
    have z' : (ts.map Value.ref)[argBest (pairLt ps) (ts.length - 1)]? = some v := by simpa using hv
    obtain ⟨h1, h2⟩ := argBest_pair ps (ts.length - 1)
    generalize argBest (pairLt ps) (ts.length - 1) = m at z' h1 h2
    have hm : m < ps.length := by omega
    rw [List.getElem?_map, List.getElem?_eq_getElem (show m < ts.length by omega)] at z'
    have ev : v = .ref ts[m] := (Option.some.inj z').symm
    refine ⟨.ref ts[m], H, I.kept fun b o e => k b o (fun z => ?_) (Heap.get?_push_of_some _ e), by rw [ev]; rfl, q m ts[m] ps[m] (List.getElem?_eq_getElem _) (List.getElem?_eq_getElem hm) fun p hp => ?_⟩
    · rcases List.mem_cons.mp z with z | z
      · have lt := Heap.lt_size e
        rw [z] at lt; exact Nat.lt_irrefl _ lt
      · cases z
    · obtain ⟨j, hj, rfl⟩ := List.mem_iff_getElem.mp hp
      have h3 := h2 j (by omega)
      rw [List.getD_eq_getElem?_getD, List.getD_eq_getElem?_getD, List.getElem?_eq_getElem hm, List.getElem?_eq_getElem hj] at h3
      exact h3
end TC
end
section
set_option Elab.async false
set_option linter.all false
set_option maxRecDepth 100000
set_option maxHeartbeats 2000000
namespace TC
open PySem PySem.Spec PyProof.Rows L2
def top (i : Nat) : Stmt := PySem.Challenge.pw_typecase_s01_answers.main.body.getD i (.Pass ⟨0, 0, 0, 0⟩)
abbrev sAdded : Stmt := top 1
abbrev sMost : Stmt := top 2
abbrev sWant : Stmt := top 3
abbrev sLeftEach : Stmt := top 4
abbrev sLacking : Stmt := top 5
abbrev sLack : Stmt := top 6
abbrev sBits : Stmt := top 7
abbrev sWantBy : Stmt := top 8
abbrev sCan : Stmt := top 9
abbrev sIsFull : Stmt := top 10
abbrev sFull : Stmt := top 11
abbrev sNext : Stmt := top 12
abbrev sAlone : Stmt := top 13
abbrev sFewest : Stmt := top 14
abbrev sFirst : Stmt := top 15
abbrev sCheaper : Stmt := top 16
abbrev sCheapest : Stmt := top 17
abbrev sBestBy : Stmt := top 18
abbrev sLeast : Stmt := top 19
abbrev sInit : Stmt := inClass (top 30) 0
abbrev sStands : Stmt := inClass (top 30) 1
abbrev sHas : Stmt := inClass (top 30) 2
abbrev sNow : Stmt := inClass (top 30) 3
abbrev sBegins : Stmt := top 31
abbrev sPage : Stmt := top 32
abbrev sBuy : Stmt := top 33
abbrev sSet : Stmt := top 34
abbrev sBack : Stmt := top 35
abbrev sLeft : Stmt := top 36
abbrev sFits : Stmt := top 37
abbrev sFullest : Stmt := top 38
abbrev sTurns : Stmt := top 39
abbrev sBought : Stmt := top 40
abbrev sPlan : Stmt := top 41
abbrev sSplit : Stmt := top 43
abbrev sAns : Stmt := top 44
def hf (ac ap : Addr) (st wk : Nat) : List (Str × V) := [("case", .ref ac), ("pages", .ref ap), ("standing", .int st), ("set_so_far", .int wk)]
structure PagesAt (K : PySem.W.Frag) (H : Hp) (ap : Addr) (as : List Addr) (pages : List (List Nat)) : Prop where
  lst : SqL K H ap (as.map V.ref)
  len : as.length = pages.length
  at_ : ∀ (j : Nat) (a : Addr) (p : List Nat), as[j]? = some a → pages[j]? = some p → SqL K H a (vN p)
theorem PagesAt.same {K : PySem.W.Frag} {H H' : Hp} {ap : Addr} {as : List Addr} {pages : List (List Nat)} (s : Same H H') (h : PagesAt K H ap as pages) : PagesAt K H' ap as pages :=
  ⟨s.seq h.lst, h.len, fun j a p h1 h2 => s.seq (h.at_ j a p h1 h2)⟩
structure HouseAt (C : Addr) (H : Hp) (hp ac ap : Addr) (as : List Addr) (s : Sx07.St) : Prop where
  ins : ∃ dx, H hp = some (.ins C dx (hf ac ap s.standing s.worked))
  case_ : H ac = some (.lst (vN s.case_))
  pages : H ap = some (.lst (as.map V.ref))
  len : as.length = s.pages.length
  at_ : ∀ (j : Nat) (a : Addr) (p : List Nat), as[j]? = some a → s.pages[j]? = some p → H a = some (.lst (vN p))
  ne : ac ≠ ap
  nc : ac ∉ as
  np : ap ∉ as
theorem HouseAt.same {C : Addr} {H H' : Hp} {hp ac ap : Addr} {as : List Addr} {s : Sx07.St} (e : Same H H') (h : HouseAt C H hp ac ap as s) : HouseAt C H' hp ac ap as s :=
  ⟨h.ins.imp fun dx q => e _ _ q, e _ _ h.case_, e _ _ h.pages, h.len, fun j a p h1 h2 => e _ _ (h.at_ j a p h1 h2), h.ne, h.nc, h.np⟩
theorem HouseAt.pagesAt {C : Addr} {K : PySem.W.Frag} {H : Hp} {hp ac ap : Addr} {as : List Addr} {s : Sx07.St} (h : HouseAt C H hp ac ap as s) : PagesAt K H ap as s.pages :=
  ⟨.of h.pages, h.len, fun j a p h1 h2 => .of (h.at_ j a p h1 h2)⟩
structure Txt (K : PySem.W.Frag) (mg : Str → Option Value) (C : Addr) : Prop where
  cl : Cls K C
  nCase : NoAttr K C "case"
  nPages : NoAttr K C "pages"
  nStanding : NoAttr K C "standing"
  nSet : NoAttr K C "set_so_far"
  mgC : mg "House" = some (.ref C)
  len : mg "len" = none
  enum : mg "enumerate" = none
  zip : mg "zip" = none
  range : mg "range" = none
  max : mg "max" = none
  sum : mg "sum" = none
  list : mg "list" = none
  min : mg "min" = none
  any : mg "any" = none
  all : mg "all" = none
  rev : mg "reversed" = none
  cLetters : ∃ t, mg "MOST_LETTERS" = some (.int 32 t)
  cMost : ∃ t, mg "MOST_OF_A_LETTER" = some (.int 65535 t)
  cPages : ∃ t, mg "MOST_PAGES" = some (.int 8 t)
  cFormes : ∃ t, mg "MOST_FORMES" = some (.int 8 t)
  cWrong : ∃ t, mg "WRONG_LETTERS" = some (.int (-1) t)
  cNo : ∃ t, mg "NO_SUCH" = some (.int (-2) t)
  cAlready : ∃ t, mg "ALREADY_SO" = some (.int (-3) t)
  cCannot : ∃ t, mg "CANNOT_STAND" = some (.int (-4) t)
  cMany : ∃ t, mg "TOO_MANY" = some (.int (-5) t)
theorem pe_gint {X : Cx} {x : Str} {n : Int} {pos : Pos} (h : ∃ t, X.mg x = some (.int n t)) (hg : Gl X x := by rfl) (hd : (x == ("__debug__" : Str)) = false := by decide) : PE X (.Name x pos) (tC (.int n)) := by
  obtain ⟨t, h⟩ := h
  exact pe_glob hg h ⟨t, rfl⟩ hd
structure Glob (P : Program) (w : World) (K : PySem.W.Frag) (mg : Str → Option Value) (base : Heap) (x : Str) (k : Nat) (f : Addr) (fd : FuncData) (ps : List Str) (sp : Sp) : Prop where
  ok : FnOk P w K mg base CX0 k f fd ps sp
  mg : mg x = some (.ref f)
  kp : PySem.W.keepIn K (.ref f) = true
  bd : Binds K fd ps []
theorem pe_g {X : Cx} {x : Str} {k : Nat} {f : Addr} {fd : FuncData} {ps : List Str} {sp : Sp} {p pos : Pos} {e : Expr} {es : List Expr} {t : TA} (G : Glob X.prog X.w X.K X.mg X.base x k f fd ps sp) (hr : Room k X.A) (ha : PA X (e :: es) t) (hg : Gl X x := by rfl)
    (hdb : (x == ("__debug__" : Str)) = false := by decide) (he : starEach (e :: es) X.env = (false, eval e X.env) :: starEach es X.env := by rfl) (hpl : (backTo pos (starEach es X.env)).any (·.1) = false := by rfl) :
    PE X (.Call (.Name x p) (e :: es) [] pos) (tCall sp [] E0 t) := pe_call G.ok hr hg G.mg G.kp G.bd .nil pass0 ha hdb he hpl
def spZip (K : PySem.W.Frag) (g : Nat → Nat → Nat) : Sp := fun vs H Q _ => ∃ (a b : Addr) (c d : List Nat), vs = [.ref a, .ref b] ∧ SqL K H a (vN c) ∧ SqL K H b (vN d) ∧ c.length ≤ 1000 ∧
  ∀ (H' : Hp) (r : Addr), Same H H' → H r = none → H' r = some (.lst (vN (List.zipWith g c d))) → Q (.ref r) H'
theorem vN_zip (g : Nat → Nat → Nat) (a b : List Nat) : List.zipWith (fun (x y : Nat) => V.int ((g x y : Nat) : Int)) a b = vN (List.zipWith g a b) := by
  unfold vN
  rw [List.map_zipWith]
section
variable {P : Program} {w : World} {K : PySem.W.Frag} {mg : Str → Option Value} {base : Heap} {C f : Addr} {fd : FuncData}
theorem scAd : FnScope ["some", "more", "first", "second"] ["some", "more"] (defScope sAdded) := ⟨rfl, rfl, rfl, by decide +kernel, rfl, by decide +kernel, by decide +kernel⟩
theorem ok_added (F : Fun K "added" "added" sAdded f fd) (T : Txt K mg C) : FnOk P w K mg base CX0 1 f fd ["some", "more"] (spZip K fun x y => x + y) := by
  refine F.ok scAd (fun vs H Q E h => ?_) (fun cdv A outer s H vs Q E hr h => ?_)
  · obtain ⟨a, b, c, d, rfl, _⟩ := h
    rfl
  · obtain ⟨a, b, c, d, rfl, ha, hb, hk, k⟩ := h
    refine ⟨_, pss_one (ps_ret (pe_lc (own := [("first", 2), ("second", 3)]) (g := gTup K 2 (gCons (gName 2) (gCons (gName 3) gNil))) (tt := tYes) (te := tOp (rI0 fun i j => .int (i + j)) (tVar 2) (tVar 3)) rfl scAd.nd (pi_zip (by rfl) T.zip (pa_cons (pv 0) (pa_cons (pv 1) pa_nil))) (blkOk_by (by show blkC ["some", "more", "first", "second"] (defScope sAdded) _ [("first", 2), ("second", 3)] = true; decide +kernel))
        (fun s H C cl fp => by exact pg_tup rfl (pgs_cons (pg_name (i := 2) scAd.nd rfl (Or.inl rfl)) (pgs_cons (pg_name (i := 3) scAd.nd rfl (Or.inl rfl)) pgs_nil)))
        (fun s H C cl fp => by exact pts_nil)
        (fun s H C cl fp => by exact pe_op op_add (pv 2) (pv 3)))), ?_⟩
    refine ⟨_, rfl, _, rfl, a, b, _, _, rfl, ha, hb, fun D hD => ?_⟩
    refine lc_zipP (K := K) (a := a) (b := b) (ea := fun (n : Nat) => V.int n) (eb := fun (n : Nat) => V.int n) (fun (x y : Nat) => V.int (((x + y : Nat)) : Int)) hD ha hb (Nat.le_trans hk (by decide)) ?_ ?_
    · intro x y H4 T4 R _ _ _ hT k4
      exact ⟨T4, _, rfl, .of hT, rfl, _, _, rfl, _, _, rfl, rfl, k4 _ rfl fun Q q => ⟨_, rfl, _, rfl, _, _, rfl, rfl, q⟩⟩
    · intro H5 s5 h5
      exact k H5 D s5 hD (by rw [h5, vN_zip])
theorem scMo : FnScope ["some", "others", "first", "second"] ["some", "others"] (defScope sMost) := ⟨rfl, rfl, rfl, by decide +kernel, rfl, by decide +kernel, by decide +kernel⟩
theorem ok_most (F : Fun K "most_of_each" "most_of_each" sMost f fd) (T : Txt K mg C) : FnOk P w K mg base CX0 1 f fd ["some", "others"] (spZip K fun x y => max x y) := by
  refine F.ok scMo (fun vs H Q E h => ?_) (fun cdv A outer s H vs Q E hr h => ?_)
  · obtain ⟨a, b, c, d, rfl, _⟩ := h
    rfl
  · obtain ⟨a, b, c, d, rfl, ha, hb, hk, k⟩ := h
    refine ⟨_, pss_one (ps_ret (pe_lc (own := [("first", 2), ("second", 3)]) (g := gTup K 2 (gCons (gName 2) (gCons (gName 3) gNil))) (tt := tYes) rfl scMo.nd (pi_zip (by rfl) T.zip (pa_cons (pv 0) (pa_cons (pv 1) pa_nil))) (blkOk_by (by show blkC ["some", "others", "first", "second"] (defScope sMost) _ [("first", 2), ("second", 3)] = true; decide +kernel))
        (fun s H C cl fp => by exact pg_tup rfl (pgs_cons (pg_name (i := 2) scMo.nd rfl (Or.inl rfl)) (pgs_cons (pg_name (i := 3) scMo.nd rfl (Or.inl rfl)) pgs_nil)))
        (fun s H C cl fp => by exact pts_nil)
        (fun s H C cl fp => by exact pe_ifExp (pt_cmpR op_gt (pv 2) (pv 3) (nomark _)) (pv 2) (pv 3)))), ?_⟩
    refine ⟨_, rfl, _, rfl, a, b, _, _, rfl, ha, hb, fun D hD => ?_⟩
    refine lc_zipP (K := K) (a := a) (b := b) (ea := fun (n : Nat) => V.int n) (eb := fun (n : Nat) => V.int n) (fun (x y : Nat) => V.int (((max x y : Nat)) : Int)) hD ha hb (Nat.le_trans hk (by decide)) ?_ ?_
    · intro x y H4 T4 R _ _ _ hT k4
      refine ⟨T4, _, rfl, .of hT, rfl, _, _, rfl, _, _, rfl, rfl, k4 _ rfl fun Q q => ⟨_, rfl, _, rfl, _, _, rfl, rfl, _, rfl, ?_⟩⟩
      refine ite2 (fun h1 => ⟨_, rfl, ?_⟩) (fun h1 => ⟨_, rfl, ?_⟩)
      · have : max x y = x := by have := of_decide_eq_true h1; omega
        rw [this] at q; exact q
      · have : max x y = y := by have : ¬ ((x : Int) > (y : Int)) := fun z => h1 (decide_eq_true z); omega
        rw [this] at q; exact q
    · intro H5 s5 h5
      exact k H5 D s5 hD (by rw [h5, vN_zip])
theorem scLk : FnScope ["case", "wanted", "there", "wants"] ["case", "wanted"] (defScope sLacking) := ⟨rfl, rfl, rfl, by decide +kernel, rfl, by decide +kernel, by decide +kernel⟩
theorem ok_lacking (F : Fun K "lacking_of_each" "lacking_of_each" sLacking f fd) (T : Txt K mg C) : FnOk P w K mg base CX0 1 f fd ["case", "wanted"] (spZip K fun h w => w - h) := by
  refine F.ok scLk (fun vs H Q E h => ?_) (fun cdv A outer s H vs Q E hr h => ?_)
  · obtain ⟨a, b, c, d, rfl, _⟩ := h
    rfl
  · obtain ⟨a, b, c, d, rfl, ha, hb, hk, k⟩ := h
    refine ⟨_, pss_one (ps_ret (pe_lc (own := [("there", 2), ("wants", 3)]) (g := gTup K 2 (gCons (gName 2) (gCons (gName 3) gNil))) (tt := tYes) rfl scLk.nd (pi_zip (by rfl) T.zip (pa_cons (pv 0) (pa_cons (pv 1) pa_nil))) (blkOk_by (by show blkC ["case", "wanted", "there", "wants"] (defScope sLacking) _ [("there", 2), ("wants", 3)] = true; decide +kernel))
        (fun s H C cl fp => by exact pg_tup rfl (pgs_cons (pg_name (i := 2) scLk.nd rfl (Or.inl rfl)) (pgs_cons (pg_name (i := 3) scLk.nd rfl (Or.inl rfl)) pgs_nil)))
        (fun s H C cl fp => by exact pts_nil)
        (fun s H C cl fp => by exact pe_ifExp (pt_cmpR op_gt (pv 3) (pv 2) (nomark _)) (pe_op op_sub (pv 3) (pv 2)) pe_int))), ?_⟩
    refine ⟨_, rfl, _, rfl, a, b, _, _, rfl, ha, hb, fun D hD => ?_⟩
    refine lc_zipP (K := K) (a := a) (b := b) (ea := fun (n : Nat) => V.int n) (eb := fun (n : Nat) => V.int n) (fun (x y : Nat) => V.int (((y - x : Nat)) : Int)) hD ha hb (Nat.le_trans hk (by decide)) ?_ ?_
    · intro x y H4 T4 R _ _ _ hT k4
      refine ⟨T4, _, rfl, .of hT, rfl, _, _, rfl, _, _, rfl, rfl, k4 _ rfl fun Q q => ⟨_, rfl, _, rfl, _, _, rfl, rfl, _, rfl, ?_⟩⟩
      refine ite2 (fun h1 => ⟨_, rfl, _, rfl, _, _, rfl, rfl, ?_⟩) (fun h1 => ?_)
      · have : ((y - x : Nat) : Int) = (y : Int) - (x : Int) := by have := of_decide_eq_true h1; omega
        rw [this] at q; exact q
      · have : y - x = 0 := by have : ¬ ((y : Int) > (x : Int)) := fun z => h1 (decide_eq_true z); omega
        rw [this] at q; exact q
    · intro H5 s5 h5
      exact k H5 D s5 hD (by rw [h5, vN_zip])
end
theorem want_step {m : Nat} {pages : List (List Nat)} {i : Nat} {p c : List Nat} (h : pages[i]? = some p) : wfrom m 0 (pages.take (i + 1)) c = if m.testBit i then Sx07.plus (wfrom m 0 (pages.take i) c) p else wfrom m 0 (pages.take i) c := by
  have hi : i < pages.length := (List.getElem?_eq_some_iff.mp h).1
  rw [take_snoc' h, wfrom_append, List.length_take, Nat.min_eq_left (Nat.le_of_lt hi), Nat.zero_add]
  rfl
def spWant (K : PySem.W.Frag) : Sp := fun vs H Q _ => ∃ (ac ap : Addr) (m : Nat) (c : List Nat) (as : List Addr) (pages : List (List Nat)), vs = [.ref ac, .ref ap, .int m] ∧ SqL K H ac (vN c) ∧ PagesAt K H ap as pages ∧ (∀ p ∈ pages, p.length = c.length) ∧ c.length ≤ 1000 ∧
  ∀ (H' : Hp) (r : Addr), Same H H' → H r = none → H' r = some (.lst (vN (Sx07.wants c.length pages m))) → Q (.ref r) H'
section
variable {P : Program} {w : World} {K : PySem.W.Frag} {mg : Str → Option Value} {base : Heap} {C f fA : Addr} {fd fdA : FuncData}
theorem scW : FnScope ["case", "pages", "mask", "wanted", "number", "wants"] ["case", "pages", "mask"] (defScope sWant) := ⟨rfl, rfl, rfl, by decide +kernel, rfl, by decide +kernel, by decide +kernel⟩
theorem ok_want (F : Fun K "wanted_together" "wanted_together" sWant f fd) (T : Txt K mg C) (GA : Glob P w K mg base "added" 1 fA fdA ["some", "more"] (spZip K fun x y => x + y)) : FnOk P w K mg base CX0 2 f fd ["case", "pages", "mask"] (spWant K) := by
  refine F.ok scW (fun vs H Q E h => ?_) (fun cdv A outer s H vs Q E hr h => ?_)
  · obtain ⟨ac, ap, m, c, as, pages, rfl, _⟩ := h
    rfl
  · obtain ⟨ac, ap, m, c, as, pages, rfl, hc, hp, hlen, hk, k⟩ := h
    refine ⟨_, pss_cons (ps_set (i := 3) scW.nd rfl (Or.inl rfl) (pe_op op_rep (pe_lst (pa_cons pe_int pa_nil)) (pe_callB call_len_seq (by rfl) T.len PySem.boot_len (pa_cons (pv 0) pa_nil))))
      (pss_cons (ps_for PassesOwn.never rfl (pi_enum (by rfl) T.enum (pa_cons (pv 1) pa_nil)) (pg_tup rfl (pgs_cons (pg_name (i := 4) scW.nd rfl (Or.inl rfl)) (pgs_cons (pg_name (i := 5) scW.nd rfl (Or.inl rfl)) pgs_nil)))
        (pss_one (ps_if (pt_truth (pe_op op_and (pe_op op_shr (pv 2) (pv 4)) pe_int) (fun _ => rfl))
          (pss_one (ps_set (i := 3) scW.nd rfl (Or.inl rfl) (pe_g GA hr (pa_cons (pv 3) (pa_cons (pv 5) pa_nil)))))
          pss_nil)))
      (pss_one (ps_ret (pv 3)))), ?_⟩
    have line : 1000 ≤ sizeLine := by decide
    -- wanted = [0] * len(case)
    refine ⟨(by show 1 ≤ sizeLine; decide), fun p0 h0 => ?_⟩
    refine ⟨_, rfl, ac, _, rfl, .inl ((same_new h0).seq hc), ?_⟩
    refine ⟨p0, _, _, rfl, rfl, upd_same, ?_, ?_, ?_, fun aw hw => ?_⟩
    · rw [List.length_map]; omega
    · rw [List.length_map]; omega
    · rw [List.length_map, Int.toNat_natCast]; show 1 * c.length ≤ sizeLine; omega
    rw [List.length_map, Int.toNat_natCast]
    have ez : (List.replicate c.length [V.int 0]).flatten = vN (Sx07.zeros c.length) := by
      unfold Sx07.zeros vN
      rw [List.map_replicate]
      generalize c.length = n
      induction n with
      | zero => rfl
      | succ n ih => rw [List.replicate_succ, List.flatten_cons, ih, List.replicate_succ]; rfl
    rw [ez]
    have s1 : Same H (upd (upd H p0 (.lst [V.int 0])) aw (.lst (vN (Sx07.zeros c.length)))) := (same_new h0).trans (same_new hw)
    have fw : H aw = none := (same_new (o := .lst [V.int 0]) h0).free hw
    -- for number, wants in enumerate(pages)
    refine ⟨_, rfl, ap, _, rfl, s1.seq hp.lst, for_enum (K := K) (a := ap) (xs := as.map V.ref) (fun i σ H' => ∃ (aw : Addr) (v4 v5 : Option V), σ = [some (.ref ac), some (.ref ap), some (.int m), some (.ref aw), v4, v5] ∧ Same H H' ∧ H aw = none ∧
        H' aw = some (.lst (vN (wfrom m 0 (pages.take i) (Sx07.zeros c.length))))) ⟨aw, none, none, rfl, s1, fw, upd_same⟩ (fun i σ H' _ ⟨_, _, _, _, s2, _⟩ => s2.seq hp.lst) ?_ ?_⟩
    · rintro i x σ H' t hi ht ⟨aw, v4, v5, rfl, s2, fw, hw⟩
      obtain ⟨a, ha, rfl⟩ := getElem?_map_some hi
      have hip : i < pages.length := by rw [← hp.len]; exact (List.getElem?_eq_some_iff.mp ha).1
      have hpi : pages[i]? = some pages[i] := List.getElem?_eq_getElem hip
      generalize pages[i] = p at hpi
      have sT : Same H' (upd H' t (.tup [.int (i : Nat), V.ref a])) := same_new ht
      have s3 := s2.trans sT
      refine ⟨t, _, rfl, .of upd_same, rfl, _, _, rfl, _, _, rfl, rfl, ?_⟩
      refine ⟨_, rfl, _, rfl, _, _, rfl, rfl, (by show (0 : Int) ≤ (i : Int); omega), _, _, rfl, rfl, _, rfl, ?_⟩
      rw [bit_test]
      refine ite2 (fun hb => ?_) (fun hb => ?_)
      · refine ⟨_, rfl, _, rfl, aw, a, _, _, rfl, .of (sT _ _ hw), s3.seq (hp.at_ i a p ha hpi), ?_, fun H5 D s5 hD h5 => ?_⟩
        · rw [wfrom_length (k := c.length) (by unfold Sx07.zeros; rw [List.length_replicate]) fun q hq => hlen q (List.mem_of_mem_take hq)]
          omega
        · refine ⟨D, _, _, rfl, s3.trans s5, s3.free hD, ?_⟩
          rw [h5, want_step hpi, if_pos hb]
          rfl
      · refine ⟨aw, _, _, rfl, s3, fw, ?_⟩
        rw [sT _ _ hw, want_step hpi, if_neg hb]
    · rintro σ H' ⟨aw, v4, v5, rfl, s2, fw, hw⟩
      refine ⟨_, rfl, k H' aw s2 fw ?_⟩
      rw [hw, List.length_map, hp.len, List.take_length, ← wants_eq]
end
end TC
end
section
set_option Elab.async false
set_option linter.all false
set_option maxRecDepth 100000
set_option maxHeartbeats 2000000
namespace TC
open PySem PySem.Spec PyProof.Rows L2
theorem vN_minus : ∀ (a b : List Nat), (∀ j, j < a.length → b.getD j 0 ≤ a.getD j 0) → List.zipWith (fun (x y : Nat) => V.int ((x : Int) - (y : Int))) a b = vN (List.zipWith (fun (x y : Nat) => x - y) a b)
  | [], _, _ => rfl
  | _ :: _, [], _ => rfl
  | x :: a, y :: b, h => by
    have h0 : y ≤ x := h 0 (Nat.succ_pos _)
    have ih := vN_minus a b fun j hj => h (j + 1) (Nat.succ_lt_succ hj)
    rw [List.zipWith_cons_cons, List.zipWith_cons_cons, ih]
    show V.int ((x : Int) - (y : Int)) :: _ = V.int ((x - y : Nat) : Int) :: _
    rw [show (x : Int) - (y : Int) = ((x - y : Nat) : Int) by omega]
def spLeftEach (K : PySem.W.Frag) : Sp := fun vs H Q _ => ∃ (ac ap : Addr) (m : Nat) (c : List Nat) (as : List Addr) (pages : List (List Nat)), vs = [.ref ac, .ref ap, .int m] ∧ SqL K H ac (vN c) ∧ PagesAt K H ap as pages ∧ (∀ p ∈ pages, p.length = c.length) ∧ c.length ≤ 1000 ∧ Sx07.fits c pages m = true ∧
  ∀ (H' : Hp) (r : Addr), Same H H' → H r = none → H' r = some (.lst (vN (List.zipWith (fun (x y : Nat) => x - y) c (Sx07.wants c.length pages m)))) → Q (.ref r) H'
section
variable {P : Program} {w : World} {K : PySem.W.Frag} {mg : Str → Option Value} {base : Heap} {C f fW fL fK fN fS : Addr} {fd fdW fdL fdK fdN fdS : FuncData}
theorem scE : FnScope ["case", "pages", "standing", "taken", "there", "gone"] ["case", "pages", "standing"] (defScope sLeftEach) := ⟨rfl, rfl, rfl, by decide +kernel, rfl, by decide +kernel, by decide +kernel⟩
theorem ok_leftEach (F : Fun K "left_of_each" "left_of_each" sLeftEach f fd) (T : Txt K mg C) (GW : Glob P w K mg base "wanted_together" 2 fW fdW ["case", "pages", "mask"] (spWant K)) : FnOk P w K mg base CX0 3 f fd ["case", "pages", "standing"] (spLeftEach K) := by
  refine F.ok scE (fun vs H Q E h => ?_) (fun cdv A outer s H vs Q E hr h => ?_)
  · obtain ⟨ac, ap, m, c, as, pages, rfl, _⟩ := h
    rfl
  · obtain ⟨ac, ap, m, c, as, pages, rfl, hc, hp, hlen, hk, hf, k⟩ := h
    refine ⟨_, pss_cons (ps_set (i := 3) scE.nd rfl (Or.inl rfl) (pe_g GW hr (pa_cons (pv 0) (pa_cons (pv 1) (pa_cons (pv 2) pa_nil)))))
      (pss_one (ps_ret (pe_lc (own := [("there", 4), ("gone", 5)]) (g := gTup K 2 (gCons (gName 4) (gCons (gName 5) gNil))) (tt := tYes) (te := tOp (rI0 fun i j => .int (i - j)) (tVar 4) (tVar 5)) rfl scE.nd (pi_zip (by rfl) T.zip (pa_cons (pv 0) (pa_cons (pv 3) pa_nil))) (blkOk_by (by show blkC ["case", "pages", "standing", "taken", "there", "gone"] (defScope sLeftEach) _ [("there", 4), ("gone", 5)] = true; decide +kernel))
        (fun s H C cl fp => by exact pg_tup rfl (pgs_cons (pg_name (i := 4) scE.nd rfl (Or.inl rfl)) (pgs_cons (pg_name (i := 5) scE.nd rfl (Or.inl rfl)) pgs_nil)))
        (fun s H C cl fp => by exact pts_nil)
        (fun s H C cl fp => by exact pe_op op_sub (pv 4) (pv 5))))), ?_⟩
    refine ⟨_, rfl, _, rfl, _, rfl, ac, ap, m, c, as, pages, rfl, hc, hp, hlen, hk, fun H1 r1 s1 n1 e1 => ?_⟩
    refine ⟨_, rfl, _, rfl, ac, r1, _, _, rfl, s1.seq hc, .of e1, fun D hD => ?_⟩
    refine lc_zipP (K := K) (a := ac) (b := r1) (ea := fun (n : Nat) => V.int n) (eb := fun (n : Nat) => V.int n) (fun (x y : Nat) => V.int ((x : Int) - (y : Int))) hD (s1.seq hc) (.of e1) (Nat.le_trans hk (by decide)) ?_ ?_
    · intro x y H4 T4 R _ _ _ hT k4
      exact ⟨T4, _, rfl, .of hT, rfl, _, _, rfl, _, _, rfl, rfl, k4 _ rfl fun Q q => ⟨_, rfl, _, rfl, _, _, rfl, rfl, q⟩⟩
    · intro H5 s5 h5
      refine k H5 D (s1.trans s5) (s1.free hD) ?_
      rw [h5, vN_minus]
      intro j hj
      rw [wants_getD hlen]
      exact (fits_iff hlen).mp hf j hj
def lackV (l c : List Nat) : V := match firstLack l c with
  | none => .non
  | some i => .int (i : Nat)
def spLack (K : PySem.W.Frag) : Sp := fun vs H Q _ => ∃ (al aw : Addr) (l c : List Nat), vs = [.ref al, .ref aw] ∧ SqL K H al (vN l) ∧ SqL K H aw (vN c) ∧ l.length = c.length ∧ l.length ≤ 1000 ∧ Q (lackV l c) H
theorem scK : FnScope ["left", "wants", "letter"] ["left", "wants"] (defScope sLack) := ⟨rfl, rfl, rfl, by decide +kernel, rfl, by decide +kernel, by decide +kernel⟩
theorem vN_at {l : List Nat} {i : Nat} (h : i < l.length) : atI (vN l) (i : Int) = some (V.int (l.getD i 0 : Nat)) := atI_nat (by
  rw [vN, List.getElem?_map, List.getD_eq_getElem?_getD, List.getElem?_eq_getElem h]; rfl)
theorem ok_lack (F : Fun K "first_lacking" "first_lacking" sLack f fd) (T : Txt K mg C) : FnOk P w K mg base CX0 1 f fd ["left", "wants"] (spLack K) := by
  refine F.ok scK (fun vs H Q E h => ?_) (fun cdv A outer s H vs Q E hr h => ?_)
  · obtain ⟨al, aw, l, c, rfl, _⟩ := h
    rfl
  · obtain ⟨al, aw, l, c, rfl, hl, hw, hlen, hk, k⟩ := h
    refine ⟨_, pss_cons (ps_for PassesOwn.never rfl (pi_range1 (by rfl) T.range (pa_cons (pe_callB call_len_seq (by rfl) T.len PySem.boot_len (pa_cons (pv 0) pa_nil)) pa_nil)) (pg_name (i := 2) scK.nd rfl (Or.inl rfl))
        (pss_one (ps_if (pt_cmpR op_gt (pe_ix ix_list (pv 1) (pv 2) (fun _ _ => rfl)) (pe_ix ix_list (pv 0) (pv 2) (fun _ _ => rfl)) (nomark _)) (pss_one (ps_ret (pv 2))) pss_nil)))
      (pss_one (ps_ret pe_non)), ?_⟩
    refine ⟨_, rfl, al, _, rfl, .inl hl, _, rfl, ?_, ?_, for_range (n := _) (fun i σ H' => ∃ v : Option V, σ = [some (.ref al), some (.ref aw), v] ∧ H' = H ∧ ∀ j, j < i → c.getD j 0 ≤ l.getD j 0) ⟨none, rfl, rfl, fun j hj => absurd hj (Nat.not_lt_zero _)⟩ ?_ ?_⟩
    · rw [List.length_map]; omega
    · rw [List.length_map]; omega
    · rintro i σ H' hi ⟨v, rfl, rfl, hb⟩
      rw [List.length_map, Int.toNat_natCast] at hi
      have e0 : (0 : Int) + (i : Int) = (i : Int) := Int.zero_add _
      rw [e0]
      refine ⟨_, rfl, _, rfl, aw, _, _, _, rfl, rfl, hw, vN_at (by omega), _, rfl, _, rfl, al, _, _, _, rfl, rfl, hl, vN_at hi, _, _, rfl, rfl, _, rfl, ?_⟩
      refine ite2 (fun hd => ?_) (fun hd => ?_)
      · have hd' : l.getD i 0 < c.getD i 0 := by have := of_decide_eq_true hd; omega
        refine ⟨_, rfl, ?_⟩
        have e : lackV l c = .int (i : Nat) := by unfold lackV; rw [firstLack_some hlen hi hb hd']
        rw [e] at k
        exact k
      · have hd' : c.getD i 0 ≤ l.getD i 0 := by
          apply Nat.le_of_not_lt
          intro z
          exact hd (decide_eq_true (by omega))
        refine ⟨_, rfl, rfl, fun j hj => ?_⟩
        by_cases hji : j = i
        · subst hji; exact hd'
        · exact hb j (by omega)
    · rintro σ H' ⟨v, rfl, rfl, hb⟩
      rw [List.length_map, Int.toNat_natCast] at hb
      have e : lackV l c = .non := by unfold lackV; rw [firstLack_none hlen hb]
      rw [e] at k
      exact k
theorem hf_case (ac ap : Addr) (st wk : Nat) : (hf ac ap st wk).lookup ("case" : Str) = some (V.ref ac) := rfl
theorem hf_pages (ac ap : Addr) (st wk : Nat) : (hf ac ap st wk).lookup ("pages" : Str) = some (V.ref ap) := rfl
theorem hf_standing (ac ap : Addr) (st wk : Nat) : (hf ac ap st wk).lookup ("standing" : Str) = some (V.int st) := rfl
theorem hf_set (ac ap : Addr) (st wk : Nat) : (hf ac ap st wk).lookup ("set_so_far" : Str) = some (V.int wk) := rfl
theorem hf_put_case (ac ap x : Addr) (st wk : Nat) : putF ("case" : Str) (V.ref x) (hf ac ap st wk) = hf x ap st wk := rfl
theorem hf_put_pages (ac ap x : Addr) (st wk : Nat) : putF ("pages" : Str) (V.ref x) (hf ac ap st wk) = hf ac x st wk := rfl
theorem hf_put_standing (ac ap : Addr) (st wk x : Nat) : putF ("standing" : Str) (V.int x) (hf ac ap st wk) = hf ac ap x wk := rfl
theorem hf_put_set (ac ap : Addr) (st wk x : Nat) : putF ("set_so_far" : Str) (V.int x) (hf ac ap st wk) = hf ac ap st x := rfl
def spInit (C : Addr) : Sp := fun vs H Q _ => ∃ (p dx : Addr), vs = [.ref p] ∧ H p = some (.ins C dx []) ∧ ∀ (H' : Hp) (ac ap : Addr), HouseAt C H' p ac ap [] Sx07.init → (∀ b o, H b = some o → b ≠ p → H' b = some o) → H ac = none → H ap = none → Q .non H'
theorem scI : FnScope ["self"] ["self"] (defScope sInit) := ⟨rfl, rfl, rfl, by decide +kernel, rfl, by decide +kernel, by decide +kernel⟩
theorem ok_init (F : Fun K "__init__" "House.__init__" sInit f fd) (T : Txt K mg C) : FnOk P w K mg base CX0 1 f fd ["self"] (spInit C) := by
  refine F.ok scI (fun vs H Q E h => ?_) (fun cdv A outer s H vs Q E hr h => ?_)
  · obtain ⟨p, dx, rfl, _⟩ := h
    rfl
  · obtain ⟨p, dx, rfl, hp, k⟩ := h
    refine ⟨_, pss_cons (ps_fld (pv 0) (pe_lst pa_nil) rfl) (pss_cons (ps_fld (pv 0) (pe_lst pa_nil) rfl) (pss_cons (ps_fld (pv 0) pe_int rfl) (pss_one (ps_fld (pv 0) pe_int rfl)))), ?_⟩
    refine ⟨Nat.zero_le _, fun ac hac => ?_⟩
    have pac : p ≠ ac := ne_of_none hp hac
    refine ⟨_, rfl, p, C, dx, [], rfl, (by rw [upd_ne pac]; exact hp), T.cl, T.nCase, (by show 0 < 1000; decide), ?_⟩
    refine ⟨Nat.zero_le _, fun ap hap => ?_⟩
    have pap : p ≠ ap := ne_of_none upd_same hap
    have hap1 : (upd H ac (.lst [])) ap = none := by rw [← hap, upd_ne pap.symm]
    have cap : ac ≠ ap := ne_of_none upd_same hap1
    have hap0 : H ap = none := by rw [← hap1, upd_ne cap.symm]
    refine ⟨_, rfl, p, C, dx, _, rfl, (by rw [upd_ne pap, upd_same]), T.cl, T.nPages, (by show 1 < 1000; decide), ?_⟩
    refine ⟨_, rfl, p, C, dx, _, rfl, upd_same, T.cl, T.nStanding, (by show 2 < 1000; decide), ?_⟩
    refine ⟨_, rfl, p, C, dx, _, rfl, upd_same, T.cl, T.nSet, (by show 3 < 1000; decide), ?_⟩
    refine k _ ac ap ⟨⟨dx, upd_same⟩, ?_, ?_, rfl, fun j a q h => ?_, cap, by simp, by simp⟩ (fun b o e hb => ?_) hac hap0
    · rw [upd_ne pac.symm, upd_ne pac.symm, upd_ne pac.symm, upd_ne cap, upd_ne pac.symm, upd_same]; rfl
    · rw [upd_ne pap.symm, upd_ne pap.symm, upd_ne pap.symm, upd_same]; rfl
    · simp at h
    · rw [upd_ne hb, upd_ne hb, upd_ne hb, upd_ne (ne_of_none e hap0), upd_ne hb, upd_ne (ne_of_none e hac)]; exact e
theorem bit_test1 (m i : Nat) : decide (V.int (Builtin.bitAnd ((m : Int) / 2 ^ ((i : Nat) : Int).toNat) 1) = V.int 1) = m.testBit i := by
  rw [← bit_test, dec_int]
  rw [Int.toNat_natCast, bitAnd_m1]
  rcases Int.emod_two_eq ((m : Int) / 2 ^ i) with h | h <;> rw [h] <;> rfl
def spStands (C : Addr) : Sp := fun vs H Q _ => ∃ (hp dx ac ap : Addr) (st wk i : Nat), vs = [.ref hp, .int i] ∧ H hp = some (.ins C dx (hf ac ap st wk)) ∧ Q (.bl (st.testBit i)) H
theorem scT : FnScope ["self", "number"] ["self", "number"] (defScope sStands) := ⟨rfl, rfl, rfl, by decide +kernel, rfl, by decide +kernel, by decide +kernel⟩
theorem ok_stands (F : Fun K "stands" "House.stands" sStands f fd) (T : Txt K mg C) : FnOk P w K mg base CX0 1 f fd ["self", "number"] (spStands C) := by
  refine F.ok scT (fun vs H Q E h => ?_) (fun cdv A outer s H vs Q E hr h => ?_)
  · obtain ⟨hp, dx, ac, ap, st, wk, i, rfl, _⟩ := h
    rfl
  · obtain ⟨hp, dx, ac, ap, st, wk, i, rfl, h1, k⟩ := h
    refine ⟨_, pss_one (ps_ret (pe_cmpR op_eq (pe_op op_and (pe_op op_shr (pe_fld (pv 0) rfl) (pv 1)) pe_int) pe_int (nomark _))), ?_⟩
    refine ⟨_, rfl, hp, C, dx, _, _, rfl, h1, T.cl, T.nStanding, hf_standing .., _, rfl, _, _, rfl, rfl, (by show (0 : Int) ≤ (i : Int); omega), _, _, rfl, rfl, rfl, ?_⟩
    rw [bit_test1]
    exact k
theorem shr_zero (m n : Nat) : decide (V.int ((m : Int) / 2 ^ ((n : Nat) : Int).toNat) = V.int 0) = decide (m < 2 ^ n) := by
  rw [dec_int, Int.toNat_natCast]
  apply decide_eq_decide.mpr
  rw [show (2 : Int) ^ n = ((2 ^ n : Nat) : Int) by rw [Int.natCast_pow]; rfl, ← Int.natCast_ediv]
  have h : m / 2 ^ n = 0 ↔ m < 2 ^ n := Nat.div_eq_zero_iff_lt (Nat.two_pow_pos n)
  omega
def spHas (K : PySem.W.Frag) (C : Addr) : Sp := fun vs H Q _ => ∃ (hp ac ap : Addr) (as : List Addr) (s : Sx07.St) (m : Nat), vs = [.ref hp, .int m] ∧ HouseAt C H hp ac ap as s ∧ Q (.bl (Sx07.isMask s m)) H
theorem scHa : FnScope ["self", "mask"] ["self", "mask"] (defScope sHas) := ⟨rfl, rfl, rfl, by decide +kernel, rfl, by decide +kernel, by decide +kernel⟩
theorem ok_has (F : Fun K "has_pages" "House.has_pages" sHas f fd) (T : Txt K mg C) : FnOk P w K mg base CX0 1 f fd ["self", "mask"] (spHas K C) := by
  refine F.ok scHa (fun vs H Q E h => ?_) (fun cdv A outer s H vs Q E hr h => ?_)
  · obtain ⟨hp, ac, ap, as, s, m, rfl, _⟩ := h
    rfl
  · obtain ⟨hp, ac, ap, as, s, m, rfl, h1, k⟩ := h
    obtain ⟨dx, hi⟩ := h1.ins
    refine ⟨_, pss_one (ps_ret (pe_cmpR op_eq (pe_op op_shr (pv 1) (pe_callB call_len_seq (by rfl) T.len PySem.boot_len (pa_cons (pe_fld (pv 0) rfl) pa_nil))) pe_int (nomark _))), ?_⟩
    refine ⟨_, rfl, _, rfl, hp, C, dx, _, _, rfl, hi, T.cl, T.nPages, hf_pages .., ap, _, rfl, .inl (.of h1.pages), _, _, rfl, rfl, (by show (0 : Int) ≤ ((as.map V.ref).length : Int); omega), rfl, ?_⟩
    rw [List.length_map, h1.len, shr_zero]
    exact k
def spNow (K : PySem.W.Frag) (C : Addr) : Sp := fun vs H Q _ => ∃ (hp ac ap : Addr) (as : List Addr) (s : Sx07.St), vs = [.ref hp] ∧ HouseAt C H hp ac ap as s ∧ Good s ∧ ∀ (H' : Hp) (r : Addr), Same H H' → H r = none → H' r = some (.lst (vN s.left)) → Q (.ref r) H'
theorem scN : FnScope ["self"] ["self"] (defScope sNow) := ⟨rfl, rfl, rfl, by decide +kernel, rfl, by decide +kernel, by decide +kernel⟩
theorem ok_now (F : Fun K "now_left" "House.now_left" sNow f fd) (T : Txt K mg C) (GL : Glob P w K mg base "left_of_each" 3 fL fdL ["case", "pages", "standing"] (spLeftEach K)) : FnOk P w K mg base CX0 4 f fd ["self"] (spNow K C) := by
  refine F.ok scN (fun vs H Q E h => ?_) (fun cdv A outer s H vs Q E hr h => ?_)
  · obtain ⟨hp, ac, ap, as, s, rfl, _⟩ := h
    rfl
  · obtain ⟨hp, ac, ap, as, s, rfl, h1, g, k⟩ := h
    obtain ⟨dx, hi⟩ := h1.ins
    refine ⟨_, pss_one (ps_ret (pe_g GL hr (pa_cons (pe_fld (pv 0) rfl) (pa_cons (pe_fld (pv 0) rfl) (pa_cons (pe_fld (pv 0) rfl) pa_nil))))), ?_⟩
    refine ⟨_, rfl, hp, C, dx, _, _, rfl, hi, T.cl, T.nCase, hf_case .., _, rfl, hp, C, dx, _, _, rfl, hi, T.cl, T.nPages, hf_pages .., _, rfl, hp, C, dx, _, _, rfl, hi, T.cl, T.nStanding, hf_standing .., ?_⟩
    exact ⟨ac, ap, s.standing, s.case_, as, s.pages, rfl, .of h1.case_, h1.pagesAt, g.like, Nat.le_trans g.letters (by decide), g.stand, fun H' r s1 n1 e1 => k H' r s1 n1 e1⟩
end
end TC
end
section
set_option Elab.async false
set_option linter.all false
set_option maxRecDepth 100000
set_option maxHeartbeats 2000000
namespace TC
open PySem PySem.Spec PyProof.Rows L2
abbrev iN (l : List Nat) : List Int := l.map fun (n : Nat) => (n : Int)
theorem vN_iN (l : List Nat) : (iN l).map V.int = vN l := by rw [iN, List.map_map]; rfl
def Due (C : Addr) (H : Hp) (hp ac ap : Addr) (as : List Addr) (s : Sx07.St) (c : List Int) (Q : VK) : Prop := ∀ (H' : Hp) (r ac' ap' : Addr) (as' : List Addr), HouseAt C H' hp ac' ap' as' (Sx07Neutral.step s [c]).1 → H r = none → H' r = some (.lst ((Sx07Neutral.step s [c]).2.map V.int)) →
  (∀ b o, H b = some o → b ≠ hp → b ≠ ac → b ≠ ap → H' b = some o) → (ac' = ac ∨ H ac' = none) → (ap' = ap ∨ H ap' = none) → (∀ b, H' b = none → H b = none) → (∀ b ∈ as', b ∈ as ∨ H b = none) → Q (.ref r) H'
theorem un {H : Hp} {a b : Addr} {o : HO} (h : upd H a o b = none) : H b = none := by
  unfold upd at h
  split at h
  · cases h
  · exact h
def spCall (K : PySem.W.Frag) (C : Addr) (p : Int) : Sp := fun vs H Q _ => ∃ (hp an ac ap : Addr) (as : List Addr) (s : Sx07.St) (l : List Nat), vs = [.ref hp, .ref an] ∧ HouseAt C H hp ac ap as s ∧ Good s ∧ SqL K H an (vN l) ∧ Asked1 (p, iN l) ∧ Due C H hp ac ap as s (p :: iN l) Q
theorem Due.same {C : Addr} {H : Hp} {hp ac ap : Addr} {as : List Addr} {s : Sx07.St} {c : List Int} {Q : VK} (k : Due C H hp ac ap as s c Q) (h : HouseAt C H hp ac ap as s) {ans : List Int} (e : Sx07Neutral.step s [c] = (s, ans)) {H' : Hp} {r : Addr} (sm : Same H H') (n : H r = none) (hr : H' r = some (.lst (ans.map V.int))) : Q (.ref r) H' :=
  k H' r ac ap as (by rw [e]; exact h.same sm) n (by rw [e]; exact hr) (fun b o q _ _ _ => sm b o q) (.inl rfl) (.inl rfl) (fun b hb => sm.free hb) (fun b hb => .inl hb)
section
variable {P : Program} {w : World} {K : PySem.W.Frag} {mg : Str → Option Value} {base : Heap} {C f fW fL fK fN fS : Addr} {fd fdW fdL fdK fdN fdS : FuncData}
theorem HouseAt.ne_hc {C : Addr} {H : Hp} {hp ac ap : Addr} {as : List Addr} {s : Sx07.St} (h : HouseAt C H hp ac ap as s) : hp ≠ ac := by
  obtain ⟨dx, hi⟩ := h.ins
  exact ne_of hi h.case_ (by intro z; cases z)
theorem HouseAt.ne_hp {C : Addr} {H : Hp} {hp ac ap : Addr} {as : List Addr} {s : Sx07.St} (h : HouseAt C H hp ac ap as s) : hp ≠ ap := by
  obtain ⟨dx, hi⟩ := h.ins
  exact ne_of hi h.pages (by intro z; cases z)
theorem HouseAt.ne_ha {C : Addr} {H : Hp} {hp ac ap : Addr} {as : List Addr} {s : Sx07.St} (h : HouseAt C H hp ac ap as s) {j : Nat} {a : Addr} (ha : as[j]? = some a) : a ≠ hp := by
  obtain ⟨dx, hi⟩ := h.ins
  have hj : j < s.pages.length := by rw [← h.len]; exact (List.getElem?_eq_some_iff.mp ha).1
  exact ne_of (h.at_ j a _ ha (List.getElem?_eq_getElem hj)) hi (by intro z; cases z)
theorem scB : FnScope ["house", "letters"] ["house", "letters"] (defScope sBegins) := ⟨rfl, rfl, rfl, by decide +kernel, rfl, by decide +kernel, by decide +kernel⟩
theorem begins_bad {s : Sx07.St} {l : List Nat} (h : ¬ (1 ≤ l.length ∧ l.length ≤ 32 ∧ ∀ x ∈ l, x ≤ 65535)) : Sx07Neutral.step s [(0 : Int) :: iN l] = (s, [-1]) := by
  rw [step_begins]
  unfold Sx07.step
  dsimp only
  rw [if_pos]
  · rfl
  · rw [← Bool.not_eq_true, Bool.and_eq_true, Bool.and_eq_true, decide_eq_true_eq, decide_eq_true_eq, countsOk_iff]
    exact h
theorem begins_good {s : Sx07.St} {l : List Nat} (h : 1 ≤ l.length ∧ l.length ≤ 32 ∧ ∀ x ∈ l, x ≤ 65535) : Sx07Neutral.step s [(0 : Int) :: iN l] = (⟨l, [], 0, 0⟩, [0]) := by
  rw [step_begins]
  unfold Sx07.step
  dsimp only
  rw [if_neg]
  · rfl
  · rw [Bool.not_eq_false, Bool.and_eq_true, Bool.and_eq_true, decide_eq_true_eq, decide_eq_true_eq, countsOk_iff]
    exact h
theorem ok_begins (F : Fun K "begins" "begins" sBegins f fd) (T : Txt K mg C) : FnOk P w K mg base CX0 1 f fd ["house", "letters"] (spCall K C 0) := by
  refine F.ok scB (fun vs H Q E h => ?_) (fun cdv A outer s H vs Q E hr h => ?_)
  · obtain ⟨hp, an, ac, ap, as, s, l, rfl, _⟩ := h
    rfl
  · obtain ⟨hp, an, ac, ap, as, s, l, rfl, hh, g, hn, ha, k⟩ := h
    obtain ⟨dx, hi⟩ := hh.ins
    refine ⟨_, pss_cons (ps_if (pw_or (pt_not (pt_chain op_le op_le pe_int (pe_callB call_len_seq (by rfl) T.len PySem.boot_len (pa_cons (pv 1) pa_nil)) (pe_gint T.cLetters))) (pw_or1 (pt_cmpR op_gt (pe_callB (cr_max rfl) (by rfl) T.max PyProof.Rows.boot_max (pa_cons (pv 1) pa_nil)) (pe_gint T.cMost) (nomark _)))).pt (pss_one (ps_ret (pe_lst (pa_cons (pe_gint T.cWrong) pa_nil)))) pss_nil)
      (pss_cons (ps_fld (pv 0) (pe_callTy call_list_of (by rfl) T.list PyProof.Rows.boot_list (pa_cons (pv 1) pa_nil)) rfl)
      (pss_cons (ps_fld (pv 0) (pe_lst pa_nil) rfl) (pss_cons (ps_fld (pv 0) pe_int rfl) (pss_cons (ps_fld (pv 0) pe_int rfl) (pss_one (ps_ret (pe_lst (pa_cons pe_int pa_nil)))))))), ?_⟩
    have bad : ¬ (1 ≤ l.length ∧ l.length ≤ 32 ∧ ∀ x ∈ l, x ≤ 65535) → ∀ r, H r = none → Q (.ref r) (upd H r (.lst [.int (-1)])) := fun hb r hr => k.same hh (begins_bad hb) (same_new hr) hr upd_same
    refine ⟨_, rfl, an, _, rfl, .inl hn, _, _, rfl, rfl, _, rfl, ?_⟩
    rw [List.length_map]
    refine ite2 (fun h1 => ?_) (fun h1 => ?_)
    · have h1' : 1 ≤ l.length := by have := of_decide_eq_true h1; omega
      refine ⟨_, _, rfl, rfl, _, rfl, ?_⟩
      refine ite2 (fun h2 => ?_) (fun h2 => ?_)
      · refine ⟨(by show 1 ≤ sizeLine; decide), fun r hr => bad (fun q => ?_) r hr⟩
        rw [Bool.not_eq_true', decide_eq_false_iff_not] at h2
        exact h2 (by omega)
      · have h2' : l.length ≤ 32 := by
          rw [Bool.not_eq_true', decide_eq_false_iff_not, Classical.not_not] at h2
          omega
        refine ⟨_, rfl, an, iN l, rfl, (by rw [vN_iN]; exact hn), (by rw [iN, List.length_map]; omega), fun m hm hmax => ?_⟩
        refine ⟨_, _, rfl, rfl, _, rfl, ?_⟩
        refine ite2 (fun h3 => ?_) (fun h3 => ?_)
        · refine ⟨(by show 1 ≤ sizeLine; decide), fun r hr => bad (fun q => ?_) r hr⟩
          obtain ⟨x, hx, rfl⟩ := List.mem_map.mp hm
          have := q.2.2 x hx
          have := of_decide_eq_true h3
          omega
        · have h3' : ∀ x ∈ l, x ≤ 65535 := fun x hx => by
            have h4 := hmax x (List.mem_map.mpr ⟨x, hx, rfl⟩)
            have h5 : ¬ (65535 : Int) < m := fun z => h3 (decide_eq_true z)
            omega
          have es := begins_good (s := s) ⟨h1', h2', h3'⟩
          refine ⟨_, rfl, an, _, rfl, .inl hn, fun c1 n1 => ?_⟩
          have hc1 : hp ≠ c1 := ne_of_none hi n1
          refine ⟨_, rfl, hp, C, dx, _, rfl, (by rw [upd_ne hc1]; exact hi), T.cl, T.nCase, (by show 4 < 1000; decide), ?_⟩
          rw [hf_put_case]
          refine ⟨Nat.zero_le _, fun p1 m1 => ?_⟩
          have hp1 : hp ≠ p1 := ne_of_none upd_same m1
          have m1' : upd H c1 (.lst (vN l)) p1 = none := by rw [← m1, upd_ne hp1.symm]
          have cp1 : c1 ≠ p1 := ne_of_none upd_same m1'
          have m1'' : H p1 = none := by rw [← m1', upd_ne cp1.symm]
          refine ⟨_, rfl, hp, C, dx, _, rfl, (by rw [upd_ne hp1, upd_same]), T.cl, T.nPages, (by show 4 < 1000; decide), ?_⟩
          rw [hf_put_pages]
          refine ⟨_, rfl, hp, C, dx, _, rfl, upd_same, T.cl, T.nStanding, (by show 4 < 1000; decide), ?_⟩
          refine ⟨_, rfl, hp, C, dx, _, rfl, upd_same, T.cl, T.nSet, (by show 4 < 1000; decide), ?_⟩
          refine ⟨(by show 1 ≤ sizeLine; decide), fun r hr => ?_⟩
          have rp : hp ≠ r := ne_of_none upd_same hr
          rw [upd_ne rp.symm, upd_ne rp.symm, upd_ne rp.symm] at hr
          have rp1 : p1 ≠ r := ne_of_none upd_same hr
          rw [upd_ne rp1.symm, upd_ne rp.symm] at hr
          have rc1 : c1 ≠ r := ne_of_none upd_same hr
          rw [upd_ne rc1.symm] at hr
          refine k _ r c1 p1 [] ?_ hr (by rw [upd_same, es]; rfl) (fun b o e b1 b2 b3 => ?_) (.inr n1) (.inr m1'') (fun b hb => un (un (un (un (un (un (un hb))))))) (fun b hb => by cases hb)
          · rw [es]
            refine ⟨⟨dx, ?_⟩, ?_, ?_, rfl, fun j a q hq => ?_, cp1, by simp, by simp⟩
            · rw [upd_ne rp, upd_same]; rfl
            · rw [upd_ne rc1, upd_ne hc1.symm, upd_ne hc1.symm, upd_ne hc1.symm, upd_ne cp1, upd_ne hc1.symm, upd_same]
            · rw [upd_ne rp1, upd_ne hp1.symm, upd_ne hp1.symm, upd_ne hp1.symm, upd_same]; rfl
            · simp at hq
          · rw [upd_ne (ne_of_none e hr), upd_ne b1, upd_ne b1, upd_ne b1, upd_ne (ne_of_none e m1''), upd_ne b1, upd_ne (ne_of_none e n1)]
            exact e
    · refine ⟨_, rfl, ?_⟩
      refine iteT ⟨(by show 1 ≤ sizeLine; decide), fun r hr => bad (fun q => ?_) r hr⟩
      exact h1 (decide_eq_true (by omega))
end
end TC
end
section
set_option Elab.async false
set_option linter.all false
set_option maxRecDepth 100000
set_option maxHeartbeats 2000000
namespace TC
open PySem PySem.Spec PyProof.Rows L2
section
variable {P : Program} {w : World} {K : PySem.W.Frag} {mg : Str → Option Value} {base : Heap} {C f fW fL fK fN fS : Addr} {fd fdW fdL fdK fdN fdS : FuncData}
theorem scP : FnScope ["house", "letters"] ["house", "letters"] (defScope sPage) := ⟨rfl, rfl, rfl, by decide +kernel, rfl, by decide +kernel, by decide +kernel⟩
theorem page_bad {s : Sx07.St} {l : List Nat} (h : ¬ (1 ≤ l.length ∧ l.length = s.case_.length ∧ ∀ x ∈ l, x ≤ 65535)) : Sx07Neutral.step s [(1 : Int) :: iN l] = (s, [-1]) := by
  rw [step_page]
  unfold Sx07.step
  dsimp only
  rw [if_pos]
  · rfl
  · rw [← Bool.not_eq_true, Bool.and_eq_true, Bool.and_eq_true, decide_eq_true_eq, beq_iff_eq, countsOk_iff]
    exact h
theorem page_full {s : Sx07.St} {l : List Nat} (h : 1 ≤ l.length ∧ l.length = s.case_.length ∧ ∀ x ∈ l, x ≤ 65535) (h8 : 8 ≤ s.pages.length) : Sx07Neutral.step s [(1 : Int) :: iN l] = (s, [-5]) := by
  rw [step_page]
  unfold Sx07.step
  dsimp only
  rw [if_neg, if_pos (show Sx07.PAGES ≤ s.pages.length from h8)]
  · rfl
  · rw [Bool.not_eq_false, Bool.and_eq_true, Bool.and_eq_true, decide_eq_true_eq, beq_iff_eq, countsOk_iff]
    exact h
theorem page_good {s : Sx07.St} {l : List Nat} (h : 1 ≤ l.length ∧ l.length = s.case_.length ∧ ∀ x ∈ l, x ≤ 65535) (h8 : ¬ 8 ≤ s.pages.length) : Sx07Neutral.step s [(1 : Int) :: iN l] = ({ s with pages := s.pages ++ [l] }, [(s.pages.length : Int)]) := by
  rw [step_page]
  unfold Sx07.step
  dsimp only
  rw [if_neg, if_neg (show ¬ Sx07.PAGES ≤ s.pages.length from h8)]
  · rfl
  · rw [Bool.not_eq_false, Bool.and_eq_true, Bool.and_eq_true, decide_eq_true_eq, beq_iff_eq, countsOk_iff]
    exact h
theorem ok_page (F : Fun K "page" "page" sPage f fd) (T : Txt K mg C) : FnOk P w K mg base CX0 1 f fd ["house", "letters"] (spCall K C 1) := by
  refine F.ok scP (fun vs H Q E h => ?_) (fun cdv A outer s H vs Q E hr h => ?_)
  · obtain ⟨hp, an, ac, ap, as, s, l, rfl, _⟩ := h
    rfl
  · obtain ⟨hp, an, ac, ap, as, s, l, rfl, hh, g, hn, ha, k⟩ := h
    obtain ⟨dx, hi⟩ := hh.ins
    refine ⟨_, pss_cons (ps_if (pw_or (pt_cmpR op_eq (pe_callB call_len_seq (by rfl) T.len PySem.boot_len (pa_cons (pe_fld (pv 0) rfl) pa_nil)) pe_int (nomark _)) (pw_or (pt_cmpR op_ne (pe_callB call_len_seq (by rfl) T.len PySem.boot_len (pa_cons (pv 1) pa_nil)) (pe_callB call_len_seq (by rfl) T.len PySem.boot_len (pa_cons (pe_fld (pv 0) rfl) pa_nil)) (nomark _)) (pw_or1 (pt_cmpR op_gt (pe_callB (cr_max rfl) (by rfl) T.max PyProof.Rows.boot_max (pa_cons (pv 1) pa_nil)) (pe_gint T.cMost) (nomark _))))).pt (pss_one (ps_ret (pe_lst (pa_cons (pe_gint T.cWrong) pa_nil)))) pss_nil)
      (pss_cons (ps_if (pt_cmpR op_eq (pe_callB call_len_seq (by rfl) T.len PySem.boot_len (pa_cons (pe_fld (pv 0) rfl) pa_nil)) (pe_gint T.cPages) (nomark _)) (pss_one (ps_ret (pe_lst (pa_cons (pe_gint T.cMany) pa_nil)))) pss_nil)
      (pss_cons (ps_expr (pe_bm PySem.F.plainAttrs_list PySem.F.slot_list_append PySem.F.type_list_append mt_append (pe_fld (pv 0) rfl) (pa_cons (pe_callTy call_list_of (by rfl) T.list PyProof.Rows.boot_list (pa_cons (pv 1) pa_nil)) pa_nil)))
      (pss_one (ps_ret (pe_lst (pa_cons (pe_op op_sub (pe_callB call_len_seq (by rfl) T.len PySem.boot_len (pa_cons (pe_fld (pv 0) rfl) pa_nil)) pe_int) pa_nil)))))), ?_⟩
    have bad : ¬ (1 ≤ l.length ∧ l.length = s.case_.length ∧ ∀ x ∈ l, x ≤ 65535) → ∀ r, H r = none → Q (.ref r) (upd H r (.lst [.int (-1)])) := fun hb r hr => k.same hh (page_bad hb) (same_new hr) hr upd_same
    refine ⟨_, rfl, hp, C, dx, _, _, rfl, hi, T.cl, T.nCase, hf_case .., ac, _, rfl, .inl (.of hh.case_), rfl, _, rfl, ?_⟩
    rw [List.length_map]
    refine ite2 (fun h1 => ?_) (fun h1 => ?_)
    · refine ⟨(by show 1 ≤ sizeLine; decide), fun r hr => bad (fun q => ?_) r hr⟩
      have := V.int.inj (of_decide_eq_true h1)
      omega
    · have h1' : s.case_.length ≠ 0 := fun z => h1 (decide_eq_true (by rw [z]; rfl))
      refine ⟨_, rfl, an, _, rfl, .inl hn, _, rfl, hp, C, dx, _, _, rfl, hi, T.cl, T.nCase, hf_case .., ac, _, rfl, .inl (.of hh.case_), rfl, _, rfl, ?_⟩
      rw [List.length_map, List.length_map]
      refine ite2 (fun h2 => ?_) (fun h2 => ?_)
      · refine ⟨(by show 1 ≤ sizeLine; decide), fun r hr => bad (fun q => ?_) r hr⟩
        rw [Bool.not_eq_true', decide_eq_false_iff_not] at h2
        exact h2 (by rw [q.2.1])
      · have h2' : l.length = s.case_.length := by
          rw [Bool.not_eq_true', decide_eq_false_iff_not, Classical.not_not] at h2
          have := V.int.inj h2
          omega
        refine ⟨_, rfl, an, iN l, rfl, (by rw [vN_iN]; exact hn), (by rw [iN, List.length_map]; omega), fun m hm hmax => ?_⟩
        refine ⟨_, _, rfl, rfl, _, rfl, ?_⟩
        refine ite2 (fun h3 => ?_) (fun h3 => ?_)
        · refine ⟨(by show 1 ≤ sizeLine; decide), fun r hr => bad (fun q => ?_) r hr⟩
          obtain ⟨x, hx, rfl⟩ := List.mem_map.mp hm
          have := q.2.2 x hx
          have := of_decide_eq_true h3
          omega
        · have h3' : ∀ x ∈ l, x ≤ 65535 := fun x hx => by
            have h4 := hmax x (List.mem_map.mpr ⟨x, hx, rfl⟩)
            have h5 : ¬ (65535 : Int) < m := fun z => h3 (decide_eq_true z)
            omega
          have hgood : 1 ≤ l.length ∧ l.length = s.case_.length ∧ ∀ x ∈ l, x ≤ 65535 := ⟨by omega, h2', h3'⟩
          refine ⟨_, rfl, hp, C, dx, _, _, rfl, hi, T.cl, T.nPages, hf_pages .., ap, _, rfl, .inl (.of hh.pages), rfl, _, rfl, ?_⟩
          rw [List.length_map, hh.len]
          refine ite2 (fun h4 => ?_) (fun h4 => ?_)
          · have h4' : 8 ≤ s.pages.length := by
              have := V.int.inj (of_decide_eq_true h4)
              omega
            refine ⟨(by show 1 ≤ sizeLine; decide), fun r hr => k.same hh (page_full hgood h4') (same_new hr) hr upd_same⟩
          · have h4' : ¬ 8 ≤ s.pages.length := fun z => h4 (decide_eq_true (by have := g.few; have e : s.pages.length = 8 := (by omega); rw [e]; rfl))
            have es := page_good (s := s) hgood h4'
            refine ⟨_, rfl, hp, C, dx, _, _, rfl, hi, T.cl, T.nPages, hf_pages .., .inl ⟨rfl, _, .of hh.pages⟩, _, rfl, an, _, rfl, .inl hn, fun c1 n1 => ?_⟩
            have pc1 : ap ≠ c1 := ne_of_none hh.pages n1
            have hc1 : hp ≠ c1 := ne_of_none hi n1
            have cc1 : ac ≠ c1 := ne_of_none hh.case_ n1
            have hhp := hh.ne_hp
            refine ⟨ap, _, _, rfl, rfl, (by rw [upd_ne pc1]; exact hh.pages), (by rw [List.length_map, hh.len]; exact Nat.lt_of_le_of_lt g.few (by decide)), ?_⟩
            refine ⟨_, rfl, hp, C, dx, _, _, rfl, (by rw [upd_ne hhp, upd_ne hc1]; exact hi), T.cl, T.nPages, hf_pages .., ap, _, rfl, .inl (.of upd_same), _, _, rfl, rfl, (by show 1 ≤ sizeLine; decide), fun r hr => ?_⟩
            have rp : ap ≠ r := ne_of_none upd_same hr
            rw [upd_ne rp.symm] at hr
            have rc1 : c1 ≠ r := ne_of_none upd_same hr
            rw [upd_ne rc1.symm] at hr
            have rh : hp ≠ r := ne_of_none hi hr
            have rcc : ac ≠ r := ne_of_none hh.case_ hr
            refine k _ r ac ap (as ++ [c1]) ?_ hr ?_ (fun b o e b1 b2 b3 => ?_) (.inl rfl) (.inl rfl) (fun b hb => un (un (un hb))) (fun b hb => (List.mem_append.mp hb).imp id fun z => by rw [List.mem_singleton.mp z]; exact n1)
            · rw [es]
              refine ⟨⟨dx, ?_⟩, ?_, ?_, ?_, fun j a q ha hq => ?_, hh.ne, ?_, ?_⟩
              · rw [upd_ne rh, upd_ne hhp, upd_ne hc1]; exact hi
              · rw [upd_ne rcc, upd_ne hh.ne, upd_ne cc1]; exact hh.case_
              · rw [upd_ne rp, upd_same, List.map_append]; rfl
              · rw [List.length_append, hh.len]
                show _ = (s.pages ++ [l]).length
                rw [List.length_append]; rfl
              · have hj : j < as.length + 1 := by have := (List.getElem?_eq_some_iff.mp ha).1; rwa [List.length_append] at this
                by_cases hlt : j < as.length
                · rw [List.getElem?_append_left hlt] at ha
                  have hq' : (s.pages ++ [l])[j]? = some q := hq
                  rw [List.getElem?_append_left (by rw [← hh.len]; exact hlt)] at hq'
                  have hA := hh.at_ j a q ha hq'
                  have n3 : a ≠ ap := fun z => hh.np (by rw [← z]; exact List.mem_of_getElem? ha)
                  rw [upd_ne (ne_of_none hA hr), upd_ne n3, upd_ne (ne_of_none hA n1)]
                  exact hA
                · have ej : j = as.length := by omega
                  subst ej
                  have hq' : (s.pages ++ [l])[as.length]? = some q := hq
                  rw [hh.len, List.getElem?_concat_length] at hq'
                  rw [List.getElem?_concat_length] at ha
                  have ea := Option.some.inj ha
                  have eq := Option.some.inj hq'
                  subst ea eq
                  rw [upd_ne rc1, upd_ne pc1.symm, upd_same]
              · intro z
                rcases List.mem_append.mp z with z | z
                · exact hh.nc z
                · exact cc1 (List.mem_singleton.mp z)
              · intro z
                rcases List.mem_append.mp z with z | z
                · exact hh.np z
                · exact pc1 (List.mem_singleton.mp z)
            · rw [upd_same, es]
              have e2 : (((as.map V.ref ++ [V.ref c1]).length : Int) - 1) = (s.pages.length : Int) := by
                rw [List.length_append, List.length_map, hh.len]
                show ((s.pages.length + 1 : Nat) : Int) - 1 = _
                omega
              show some (HO.lst [V.int (((as.map V.ref ++ [V.ref c1]).length : Int) - 1)]) = _
              rw [e2]
              rfl
            · rw [upd_ne (ne_of_none e hr), upd_ne b3, upd_ne (ne_of_none e n1)]
              exact e
theorem scY : FnScope ["house", "numbers", "letter", "then"] ["house", "numbers"] (defScope sBuy) := ⟨rfl, rfl, rfl, by decide +kernel, rfl, by decide +kernel, by decide +kernel⟩
theorem ok_buy (F : Fun K "buy" "buy" sBuy f fd) (T : Txt K mg C) : FnOk P w K mg base CX0 1 f fd ["house", "numbers"] (spCall K C 2) := by
  refine F.ok scY (fun vs H Q E h => ?_) (fun cdv A outer s H vs Q E hr h => ?_)
  · obtain ⟨hp, an, ac, ap, as, s, l, rfl, _⟩ := h
    rfl
  · obtain ⟨hp, an, ac, ap, as, s, l, rfl, hh, g, hn, ha, k⟩ := h
    obtain ⟨dx, hi⟩ := hh.ins
    obtain ⟨i, n, el⟩ : ∃ i n : Nat, l = [i, n] := by
      obtain ⟨i, n, e⟩ := ha.two rfl
      match l, e with
      | [a, b], e => exact ⟨a, b, rfl⟩
    subst el
    refine ⟨_, pss_cons (ps_set (i := 2) scY.nd rfl (Or.inl rfl) (pe_ix ix_list (pv 1) pe_int (fun _ _ => rfl)))
      (pss_cons (ps_if (pt_cmpR op_ge (pv 2) (pe_callB call_len_seq (by rfl) T.len PySem.boot_len (pa_cons (pe_fld (pv 0) rfl) pa_nil)) (nomark _)) (pss_one (ps_ret (pe_lst (pa_cons (pe_gint T.cNo) pa_nil)))) pss_nil)
      (pss_cons (ps_set (i := 3) scY.nd rfl (Or.inl rfl) (pe_op op_add (pe_ix ix_list (pe_fld (pv 0) rfl) (pv 2) (fun _ _ => rfl)) (pe_ix ix_list (pv 1) pe_int (fun _ _ => rfl))))
      (pss_cons (ps_if (pt_cmpR op_gt (pv 3) (pe_gint T.cMost) (nomark _)) (pss_one (ps_ret (pe_lst (pa_cons (pe_gint T.cMany) pa_nil)))) pss_nil)
      (pss_cons (ps_asg (pv 3) (pg_sub (pe_fld (pv 0) rfl) (pv 2) set_list))
      (pss_one (ps_ret (pe_lst (pa_cons (pv 3) pa_nil)))))))), ?_⟩
    have es : Sx07Neutral.step s [(2 : Int) :: iN [i, n]] = ((Sx07.step s (.buy i n)).1, ansOf (Sx07.step s (.buy i n)).2) := step_buy s i n
    unfold Sx07.step at es
    dsimp only at es
    refine ⟨_, rfl, an, _, _, _, rfl, rfl, hn, (show atI (vN [i, n]) 0 = some (V.int i) from rfl), ?_⟩
    refine ⟨_, rfl, _, rfl, hp, C, dx, _, _, rfl, hi, T.cl, T.nCase, hf_case .., ac, _, rfl, .inl (.of hh.case_), _, _, rfl, rfl, _, rfl, ?_⟩
    rw [List.length_map]
    refine ite2 (fun h1 => ?_) (fun h1 => ?_)
    · have h1' : s.case_.length ≤ i := by have := of_decide_eq_true h1; omega
      rw [if_pos h1'] at es
      exact ⟨(by show 1 ≤ sizeLine; decide), fun r hr => k.same hh es (same_new hr) hr upd_same⟩
    · have h1' : ¬ s.case_.length ≤ i := fun z => h1 (decide_eq_true (by omega))
      rw [if_neg h1'] at es
      refine ⟨_, rfl, hp, C, dx, _, _, rfl, hi, T.cl, T.nCase, hf_case .., _, rfl, ac, _, _, _, rfl, rfl, .of hh.case_, vN_at (by omega), _, rfl, an, _, _, _, rfl, rfl, hn, (show atI (vN [i, n]) 1 = some (V.int n) from rfl), _, _, rfl, rfl, ?_⟩
      refine ⟨_, rfl, _, _, rfl, rfl, _, rfl, ?_⟩
      refine ite2 (fun h2 => ?_) (fun h2 => ?_)
      · have h2' : Sx07.MOST < s.case_.getD i 0 + n := by
          have := of_decide_eq_true h2
          show 65535 < _
          omega
        rw [if_pos h2'] at es
        exact ⟨(by show 1 ≤ sizeLine; decide), fun r hr => k.same hh es (same_new hr) hr upd_same⟩
      · have h2' : ¬ Sx07.MOST < s.case_.getD i 0 + n := fun z => h2 (decide_eq_true (by have z' : 65535 < s.case_.getD i 0 + n := z; omega))
        rw [if_neg h2'] at es
        have hix : ixN (vN s.case_).length (i : Int) = some i := by
          unfold ixN
          rw [List.length_map, if_pos (by omega), if_pos (by omega), Int.toNat_natCast]
        refine ⟨_, rfl, _, rfl, hp, C, dx, _, _, rfl, hi, T.cl, T.nCase, hf_case .., _, rfl, ac, _, _, _, rfl, rfl, hh.case_, hix, ?_⟩
        refine ⟨_, rfl, (by show 1 ≤ sizeLine; decide), fun r hr => ?_⟩
        have rc : ac ≠ r := ne_of_none upd_same hr
        rw [upd_ne rc.symm] at hr
        have rh : hp ≠ r := ne_of_none hi hr
        have rp : ap ≠ r := ne_of_none hh.pages hr
        have ev : (vN s.case_).set i (V.int (((s.case_.getD i 0 : Nat) : Int) + (n : Int))) = vN (s.case_.set i (s.case_.getD i 0 + n)) := by
          rw [vN, vN, List.map_set]
          congr 1
        refine k _ r ac ap as ?_ hr (by rw [upd_same, es]; show some (HO.lst [V.int (((s.case_.getD i 0 : Nat) : Int) + (n : Int))]) = _; rfl) (fun b o e b1 b2 b3 => ?_) (.inl rfl) (.inl rfl) (fun b hb => un (un hb)) (fun b hb => .inl hb)
        · rw [es]
          refine ⟨⟨dx, ?_⟩, ?_, ?_, hh.len, fun j a q ha hq => ?_, hh.ne, hh.nc, hh.np⟩
          · rw [upd_ne rh, upd_ne hh.ne_hc]; exact hi
          · rw [upd_ne rc, upd_same]
            exact congrArg (fun q => some (HO.lst q)) ev
          · rw [upd_ne rp, upd_ne hh.ne.symm]; exact hh.pages
          · have hA := hh.at_ j a q ha hq
            rw [upd_ne (ne_of_none hA hr), upd_ne (fun z => hh.nc (by rw [← z]; exact List.mem_of_getElem? ha))]
            exact hA
        · rw [upd_ne (ne_of_none e hr), upd_ne b2]; exact e
end
end TC
end
section
set_option Elab.async false
set_option linter.all false
set_option maxRecDepth 100000
set_option maxHeartbeats 2000000
namespace TC
open PySem PySem.Spec PyProof.Rows L2
theorem two_pow_nat (i : Nat) : (2 : Int) ^ i = ((2 ^ i : Nat) : Int) := by
  rw [Int.natCast_pow]; rfl
theorem or_set {st i : Nat} (h : st.testBit i = false) : Builtin.bitOr (st : Int) (1 * 2 ^ ((i : Nat) : Int).toNat) = ((st + 2 ^ i : Nat) : Int) := by
  rw [Int.toNat_natCast, Int.one_mul, two_pow_nat, Bits.bitOr_pp (Int.natCast_nonneg _) (Int.natCast_nonneg _), Int.toNat_natCast, Int.toNat_natCast, ← add_or h]
theorem xor_back {st i : Nat} (h : st.testBit i = true) : Builtin.bitXor (st : Int) (1 * 2 ^ ((i : Nat) : Int).toNat) = ((st - 2 ^ i : Nat) : Int) := by
  rw [Int.toNat_natCast, Int.one_mul, two_pow_nat, Bits.bitXor_pp (Int.natCast_nonneg _) (Int.natCast_nonneg _), Int.toNat_natCast, Int.toNat_natCast, ← sub_xor h]
theorem hf_no_stands (ac ap : Addr) (st wk : Nat) : (hf ac ap st wk).lookup ("stands" : Str) = none := rfl
theorem hf_no_now (ac ap : Addr) (st wk : Nat) : (hf ac ap st wk).lookup ("now_left" : Str) = none := rfl
section
variable {P : Program} {w : World} {K : PySem.W.Frag} {mg : Str → Option Value} {base : Heap} {C f fW fL fK fN fS : Addr} {fd fdW fdL fdK fdN fdS : FuncData}
theorem HouseAt.nums {C : Addr} {H : Hp} {hp ac ap dx : Addr} {as : List Addr} {s : Sx07.St} (h : HouseAt C H hp ac ap as s) {st wk : Nat} {H' : Hp} (e1 : H' hp = some (.ins C dx (hf ac ap st wk))) (e2 : ∀ b o, H b = some o → b ≠ hp → H' b = some o) :
    HouseAt C H' hp ac ap as { s with standing := st, worked := wk } :=
  ⟨⟨dx, e1⟩, e2 _ _ h.case_ h.ne_hc.symm, e2 _ _ h.pages h.ne_hp.symm, h.len, fun j a p h1 h2 => e2 _ _ (h.at_ j a p h1 h2) (h.ne_ha h1), h.ne, h.nc, h.np⟩
theorem scS : FnScope ["house", "numbers", "number", "wants", "lacking"] ["house", "numbers"] (defScope sSet) := ⟨rfl, rfl, rfl, by decide +kernel, rfl, by decide +kernel, by decide +kernel⟩
theorem ok_set (F : Fun K "set_page" "set_page" sSet f fd) (T : Txt K mg C) (GS : FnOk P w K mg base CX0 1 fS fdS ["self", "number"] (spStands C)) (bS : Binds K fdS ["self", "number"] []) (mS : Meth K C "stands" fS)
    (GN : FnOk P w K mg base CX0 4 fN fdN ["self"] (spNow K C)) (bN : Binds K fdN ["self"] []) (mN : Meth K C "now_left" fN) (GK : Glob P w K mg base "first_lacking" 1 fK fdK ["left", "wants"] (spLack K)) : FnOk P w K mg base CX0 5 f fd ["house", "numbers"] (spCall K C 3) := by
  refine F.ok scS (fun vs H Q E h => ?_) (fun cdv A outer s H vs Q E hr h => ?_)
  · obtain ⟨hp, an, ac, ap, as, s, l, rfl, _⟩ := h
    rfl
  · obtain ⟨hp, an, ac, ap, as, s, l, rfl, hh, g, hn, ha, k⟩ := h
    obtain ⟨dx, hi⟩ := hh.ins
    obtain ⟨i, el⟩ : ∃ i : Nat, l = [i] := by
      obtain ⟨i, e⟩ := ha.one (.inl rfl)
      match l, e with
      | [a], e => exact ⟨a, rfl⟩
    subst el
    have hr1 : Room 1 _ := hr.mono (by decide)
    refine ⟨_, pss_cons (ps_set (i := 2) scS.nd rfl (Or.inl rfl) (pe_ix ix_list (pv 1) pe_int (fun _ _ => rfl)))
      (pss_cons (ps_if (pt_cmpR op_ge (pv 2) (pe_callB call_len_seq (by rfl) T.len PySem.boot_len (pa_cons (pe_fld (pv 0) rfl) pa_nil)) (nomark _)) (pss_one (ps_ret (pe_lst (pa_cons (pe_gint T.cNo) pa_nil)))) pss_nil)
      (pss_cons (ps_if (pt_val (pe_meth (pv 0) T.cl mS GS hr1 bS .nil pass0 (pa_cons (pv 2) pa_nil))) (pss_one (ps_ret (pe_lst (pa_cons (pe_gint T.cAlready) pa_nil)))) pss_nil)
      (pss_cons (ps_set (i := 3) scS.nd rfl (Or.inl rfl) (pe_ix ix_list (pe_fld (pv 0) rfl) (pv 2) (fun _ _ => rfl)))
      (pss_cons (ps_set (i := 4) scS.nd rfl (Or.inl rfl) (pe_g GK hr1 (pa_cons (pe_meth0 (pv 0) T.cl mN GN hr bN .nil pass0) (pa_cons (pv 3) pa_nil))))
      (pss_cons (ps_if (pt_cmp (pc_notN (pv 4))) (pss_one (ps_ret (pe_lst (pa_cons (pe_gint T.cCannot) (pa_cons (pv 4) pa_nil))))) pss_nil)
      (pss_cons (ps_fld (pv 0) (pe_op op_or (pe_fld (pv 0) rfl) (pe_op op_shl pe_int (pv 2))) rfl)
      (pss_cons (ps_fld (pv 0) (pe_op op_add (pe_fld (pv 0) rfl) (pe_callB (cr_sum rfl) (by rfl) T.sum PyProof.Rows.boot_sum (pa_cons (pv 3) pa_nil))) rfl)
      (pss_one (ps_ret (pe_lst (pa_cons (pe_fld (pv 0) rfl) pa_nil))))))))))), ?_⟩
    have es : Sx07Neutral.step s [(3 : Int) :: iN [i]] = ((Sx07.step s (.sets i)).1, ansOf (Sx07.step s (.sets i)).2) := step_sets s i
    unfold Sx07.step at es
    dsimp only at es
    refine ⟨_, rfl, an, _, _, _, rfl, rfl, hn, (show atI (vN [i]) 0 = some (V.int i) from rfl), ?_⟩
    refine ⟨_, rfl, _, rfl, hp, C, dx, _, _, rfl, hi, T.cl, T.nPages, hf_pages .., ap, _, rfl, .inl (.of hh.pages), _, _, rfl, rfl, _, rfl, ?_⟩
    rw [List.length_map, hh.len]
    refine ite2 (fun h1 => ?_) (fun h1 => ?_)
    · have h1' : s.pages.length ≤ i := by have := of_decide_eq_true h1; omega
      rw [List.getElem?_eq_none h1'] at es
      exact ⟨(by show 1 ≤ sizeLine; decide), fun r hr => k.same hh es (same_new hr) hr upd_same⟩
    · have h1' : i < s.pages.length := Nat.lt_of_not_le fun z => h1 (decide_eq_true (by omega))
      have hc : s.pages[i]? = some s.pages[i] := List.getElem?_eq_getElem h1'
      generalize s.pages[i] = c at hc
      have hcl : c.length = s.case_.length := g.like c (List.mem_of_getElem? hc)
      rw [hc] at es
      dsimp only at es
      refine ⟨_, rfl, hp, dx, _, rfl, hi, hf_no_stands .., _, rfl, hp, dx, ac, ap, s.standing, s.worked, i, rfl, hi, _, rfl, ?_⟩
      refine ite2 (fun h2 => ?_) (fun h2 => ?_)
      · rw [if_pos h2] at es
        exact ⟨(by show 1 ≤ sizeLine; decide), fun r hr => k.same hh es (same_new hr) hr upd_same⟩
      · have h2' : s.standing.testBit i = false := by rw [← Bool.not_eq_true]; exact h2
        rw [if_neg h2] at es
        have hai : i < as.length := by rw [hh.len]; exact h1'
        have hA : as[i]? = some as[i] := List.getElem?_eq_getElem hai
        generalize as[i] = aw at hA
        refine ⟨_, rfl, hp, C, dx, _, _, rfl, hi, T.cl, T.nPages, hf_pages .., _, rfl, ap, _, _, _, rfl, rfl, .of hh.pages, atI_nat (v := V.ref aw) (by rw [List.getElem?_map, hA]; rfl), ?_⟩
        refine ⟨_, rfl, hp, dx, _, rfl, hi, hf_no_now .., hp, ac, ap, as, s, rfl, hh, g, fun H1 al s1 n1 e1 => ?_⟩
        have haw := hh.at_ i aw c hA hc
        have hll := left_length g
        refine ⟨_, rfl, al, aw, s.left, c, rfl, .of e1, .of (s1 _ _ haw), hll.trans hcl.symm, (by rw [hll]; exact Nat.le_trans g.letters (by decide)), ?_⟩
        have hfs := fits_set g hc h2'
        refine ⟨_, rfl, _, rfl, ?_⟩
        cases hfl : firstLack s.left c with
        | some j =>
          have ev : lackV s.left c = .int (j : Nat) := by unfold lackV; rw [hfl]
          obtain ⟨hj1, hj2⟩ := firstLack_is (hll.trans hcl.symm) hfl
          have hnf : Sx07.fits s.case_ s.pages (s.standing + 2 ^ i) = false := by
            rw [← Bool.not_eq_true, hfs]
            intro z
            have := z j (by rw [← hll]; exact hj1)
            omega
          rw [if_pos hnf] at es
          have hfl' : (List.findIdx? (fun x => x != 0) (Sx07.lacks s.left c)) = some j := hfl
          rw [hfl'] at es
          rw [ev]
          refine iteT ?_
          refine ⟨_, rfl, (by show 2 ≤ sizeLine; decide), fun r hr => k.same hh es (s1.trans (same_new hr)) (s1.free hr) ?_⟩
          rw [upd_same]
          rfl
        | none =>
          have ev : lackV s.left c = .non := by unfold lackV; rw [hfl]
          have hft : Sx07.fits s.case_ s.pages (s.standing + 2 ^ i) = true := by
            rw [hfs]
            intro j hj
            apply Nat.le_of_not_lt
            intro z
            have hne := List.findIdx?_eq_none_iff.mp (show (Sx07.lacks s.left c).findIdx? (fun x => x != 0) = none from hfl)
            have h3 := hne _ (List.mem_of_getElem? (lacks_get (hll.trans hcl.symm) (show j < s.left.length by rw [hll]; exact hj)))
            have h4 : c.getD j 0 - s.left.getD j 0 = 0 := by simpa using h3
            omega
          rw [if_neg (by rw [hft]; decide)] at es
          rw [ev]
          refine iteF ?_
          have hi1 := s1 _ _ hi
          refine ⟨_, rfl, hp, C, dx, _, _, rfl, hi1, T.cl, T.nStanding, hf_standing .., _, rfl, _, _, rfl, rfl, ⟨(by show (0 : Int) ≤ (i : Int); omega), (by show (i : Int) ≤ 1000000; have := g.few; omega), (by decide)⟩, _, _, rfl, rfl, _, rfl, hp, C, dx, _, rfl, hi1, T.cl, T.nStanding, (by show 4 < 1000; decide), ?_⟩
          dsimp only
          rw [or_set h2', hf_put_standing]
          have haw1 : upd H1 hp (.ins C dx (hf ac ap (s.standing + 2 ^ i) s.worked)) aw = some (.lst (vN c)) := by rw [upd_ne (hh.ne_ha hA)]; exact s1 _ _ haw
          refine ⟨_, rfl, hp, C, dx, _, _, rfl, upd_same, T.cl, T.nSet, hf_set .., _, rfl, aw, iN c, rfl, (by rw [vN_iN]; exact .of haw1), _, _, rfl, rfl, _, rfl, hp, C, dx, _, rfl, upd_same, T.cl, T.nSet, (by show 4 < 1000; decide), ?_⟩
          have esum : (s.worked : Int) + (iN c).sum = ((s.worked + Sx07.total c : Nat) : Int) := by rw [iN, total_sum]; omega
          dsimp only
          rw [esum, hf_put_set]
          refine ⟨_, rfl, hp, C, dx, _, _, rfl, upd_same, T.cl, T.nSet, hf_set .., (by show 1 ≤ sizeLine; decide), fun r hr => ?_⟩
          have rh : hp ≠ r := ne_of_none upd_same hr
          have hr0 : H r = none := s1.free (un (un hr))
          refine k _ r ac ap as ?_ hr0 (by rw [upd_same, es]; rfl) (fun b o e b1 b2 b3 => ?_) (.inl rfl) (.inl rfl) (fun b hb => s1.free (un (un (un hb)))) (fun b hb => .inl hb)
          · rw [es]
            refine hh.nums (dx := dx) (by rw [upd_ne rh, upd_same]) fun b o e b1 => ?_
            rw [upd_ne (ne_of_none e hr0), upd_ne b1, upd_ne b1]; exact s1 _ _ e
          · rw [upd_ne (ne_of_none e hr0), upd_ne b1, upd_ne b1]; exact s1 _ _ e
theorem scBk : FnScope ["house", "numbers", "number"] ["house", "numbers"] (defScope sBack) := ⟨rfl, rfl, rfl, by decide +kernel, rfl, by decide +kernel, by decide +kernel⟩
theorem ok_back (F : Fun K "back" "back" sBack f fd) (T : Txt K mg C) (GS : FnOk P w K mg base CX0 1 fS fdS ["self", "number"] (spStands C)) (bS : Binds K fdS ["self", "number"] []) (mS : Meth K C "stands" fS) : FnOk P w K mg base CX0 2 f fd ["house", "numbers"] (spCall K C 4) := by
  refine F.ok scBk (fun vs H Q E h => ?_) (fun cdv A outer s H vs Q E hr h => ?_)
  · obtain ⟨hp, an, ac, ap, as, s, l, rfl, _⟩ := h
    rfl
  · obtain ⟨hp, an, ac, ap, as, s, l, rfl, hh, g, hn, ha, k⟩ := h
    obtain ⟨dx, hi⟩ := hh.ins
    obtain ⟨i, el⟩ : ∃ i : Nat, l = [i] := by
      obtain ⟨i, e⟩ := ha.one (.inr (.inl rfl))
      match l, e with
      | [a], e => exact ⟨a, rfl⟩
    subst el
    refine ⟨_, pss_cons (ps_set (i := 2) scBk.nd rfl (Or.inl rfl) (pe_ix ix_list (pv 1) pe_int (fun _ _ => rfl)))
      (pss_cons (ps_if (pt_cmpR op_ge (pv 2) (pe_callB call_len_seq (by rfl) T.len PySem.boot_len (pa_cons (pe_fld (pv 0) rfl) pa_nil)) (nomark _)) (pss_one (ps_ret (pe_lst (pa_cons (pe_gint T.cNo) pa_nil)))) pss_nil)
      (pss_cons (ps_if (pt_not (pt_val (pe_meth (pv 0) T.cl mS GS hr bS .nil pass0 (pa_cons (pv 2) pa_nil)))) (pss_one (ps_ret (pe_lst (pa_cons (pe_gint T.cAlready) pa_nil)))) pss_nil)
      (pss_cons (ps_fld (pv 0) (pe_op op_xor (pe_fld (pv 0) rfl) (pe_op op_shl pe_int (pv 2))) rfl)
      (pss_one (ps_ret (pe_lst (pa_cons (pe_fld (pv 0) rfl) pa_nil))))))), ?_⟩
    have es : Sx07Neutral.step s [(4 : Int) :: iN [i]] = ((Sx07.step s (.back i)).1, ansOf (Sx07.step s (.back i)).2) := step_back s i
    unfold Sx07.step at es
    dsimp only at es
    refine ⟨_, rfl, an, _, _, _, rfl, rfl, hn, (show atI (vN [i]) 0 = some (V.int i) from rfl), ?_⟩
    refine ⟨_, rfl, _, rfl, hp, C, dx, _, _, rfl, hi, T.cl, T.nPages, hf_pages .., ap, _, rfl, .inl (.of hh.pages), _, _, rfl, rfl, _, rfl, ?_⟩
    rw [List.length_map, hh.len]
    refine ite2 (fun h1 => ?_) (fun h1 => ?_)
    · have h1' : s.pages.length ≤ i := by have := of_decide_eq_true h1; omega
      rw [if_pos h1'] at es
      exact ⟨(by show 1 ≤ sizeLine; decide), fun r hr => k.same hh es (same_new hr) hr upd_same⟩
    · have h1' : ¬ s.pages.length ≤ i := fun z => h1 (decide_eq_true (by omega))
      rw [if_neg h1'] at es
      refine ⟨_, rfl, hp, dx, _, rfl, hi, hf_no_stands .., _, rfl, hp, dx, ac, ap, s.standing, s.worked, i, rfl, hi, _, rfl, ?_⟩
      refine ite2 (fun h2 => ?_) (fun h2 => ?_)
      · rw [Bool.not_eq_true'] at h2
        rw [if_pos h2] at es
        exact ⟨(by show 1 ≤ sizeLine; decide), fun r hr => k.same hh es (same_new hr) hr upd_same⟩
      · have h2' : s.standing.testBit i = true := by
          rw [Bool.not_eq_true', Bool.not_eq_false] at h2
          exact h2
        rw [if_neg (by rw [h2']; decide)] at es
        refine ⟨_, rfl, hp, C, dx, _, _, rfl, hi, T.cl, T.nStanding, hf_standing .., _, rfl, _, _, rfl, rfl, ⟨(by show (0 : Int) ≤ (i : Int); omega), (by show (i : Int) ≤ 1000000; have := g.few; omega), (by decide)⟩, _, _, rfl, rfl, _, rfl, hp, C, dx, _, rfl, hi, T.cl, T.nStanding, (by show 4 < 1000; decide), ?_⟩
        dsimp only
        rw [xor_back h2', hf_put_standing]
        refine ⟨_, rfl, hp, C, dx, _, _, rfl, upd_same, T.cl, T.nStanding, hf_standing .., (by show 1 ≤ sizeLine; decide), fun r hr => ?_⟩
        have rh : hp ≠ r := ne_of_none upd_same hr
        have hr0 : H r = none := un hr
        refine k _ r ac ap as ?_ hr0 (by rw [upd_same, es]; rfl) (fun b o e b1 b2 b3 => ?_) (.inl rfl) (.inl rfl) (fun b hb => un (un hb)) (fun b hb => .inl hb)
        · rw [es]
          refine hh.nums (dx := dx) (by rw [upd_ne rh, upd_same]) fun b o e b1 => ?_
          rw [upd_ne (ne_of_none e hr0), upd_ne b1]; exact e
        · rw [upd_ne (ne_of_none e hr0), upd_ne b1]; exact e
theorem scLf : FnScope ["house", "numbers", "each"] ["house", "numbers"] (defScope sLeft) := ⟨rfl, rfl, rfl, by decide +kernel, rfl, by decide +kernel, by decide +kernel⟩
theorem ok_left (F : Fun K "left" "left" sLeft f fd) (T : Txt K mg C) (GN : FnOk P w K mg base CX0 4 fN fdN ["self"] (spNow K C)) (bN : Binds K fdN ["self"] []) (mN : Meth K C "now_left" fN) : FnOk P w K mg base CX0 5 f fd ["house", "numbers"] (spCall K C 5) := by
  refine F.ok scLf (fun vs H Q E h => ?_) (fun cdv A outer s H vs Q E hr h => ?_)
  · obtain ⟨hp, an, ac, ap, as, s, l, rfl, _⟩ := h
    rfl
  · obtain ⟨hp, an, ac, ap, as, s, l, rfl, hh, g, hn, ha, k⟩ := h
    obtain ⟨dx, hi⟩ := hh.ins
    have el : l = [] := by
      have := ha.none (.inl rfl)
      exact List.map_eq_nil_iff.mp this
    subst el
    refine ⟨_, pss_cons (ps_set (i := 2) scLf.nd rfl (Or.inl rfl) (pe_meth0 (pv 0) T.cl mN GN hr bN .nil pass0))
      (pss_one (ps_ret (pe_op op_cat (pe_lst (pa_cons (pe_callB (cr_sum rfl) (by rfl) T.sum PyProof.Rows.boot_sum (pa_cons (pv 2) pa_nil)) pa_nil)) (pv 2)))), ?_⟩
    refine ⟨_, rfl, hp, dx, _, rfl, hi, hf_no_now .., hp, ac, ap, as, s, rfl, hh, g, fun H1 al s1 n1 e1 => ?_⟩
    refine ⟨_, rfl, al, iN s.left, rfl, (by rw [vN_iN]; exact .of e1), (by show 1 ≤ sizeLine; decide), fun p1 m1 => ?_⟩
    have ap1 : al ≠ p1 := ne_of_none e1 m1
    have hll := left_length g
    refine ⟨_, rfl, p1, al, _, _, rfl, rfl, upd_same, (by rw [upd_ne ap1]; exact e1), ?_, fun r hr => ?_⟩
    · rw [List.length_map, hll]
      have := g.letters
      show 1 + s.case_.length ≤ sizeLine
      exact Nat.le_trans (Nat.add_le_add_left this 1) (by decide)
    · have s2 : Same H1 (upd H1 p1 (.lst [V.int (iN s.left).sum])) := same_new m1
      refine k.same hh (step_left s) ((s1.trans s2).trans (same_new hr)) (s1.free (s2.free hr)) ?_
      rw [upd_same, iN, total_sum]
      show some (HO.lst (V.int _ :: vN s.left)) = some (HO.lst (V.int _ :: (Sx07.ints s.left).map V.int))
      have e : (Sx07.ints s.left).map V.int = vN s.left := by unfold Sx07.ints; rw [List.map_map]; rfl
      rw [e]
      rfl
end
end TC
end
section
set_option Elab.async false
set_option linter.all false
set_option maxRecDepth 100000
set_option maxHeartbeats 2000000
namespace TC
open PySem PySem.Spec PyProof.Rows L2
theorem iteP {c : Prop} [Decidable c] {A B : Prop} (hc : c) (h : A) : if decide c = true then A else B := by rw [if_pos (decide_eq_true hc)]; exact h
theorem iteN {c : Prop} [Decidable c] {A B : Prop} (hc : ¬ c) (h : B) : if decide c = true then A else B := by rw [if_neg (fun z => hc (of_decide_eq_true z))]; exact h
structure PartsAt (H0 H : Hp) (r : Addr) (ts : List Addr) (xs : List (Int × List Int)) : Prop where
  len : ts.length = xs.length
  at_ : ∀ (j : Nat) (t : Addr) (x : Int × List Int), ts[j]? = some t → xs[j]? = some x → H0 t = none ∧ ∃ an, H t = some (.tup [.int x.1, .ref an]) ∧ H an = some (.lst (x.2.map V.int)) ∧ an ≠ r ∧ H0 an = none
def spSplit (K : PySem.W.Frag) : Sp := fun vs H Q _ => ∃ (a : Addr) (xs : List (Int × List Int)), vs = [.ref a] ∧ SqL K H a ((xs.flatMap enc).map V.int) ∧ xs.length ≤ 60 ∧
  ∀ (H' : Hp) (r : Addr) (ts : List Addr), Same H H' → H r = none → H' r = some (.lst (ts.map V.ref)) → PartsAt H H' r ts xs → Q (.ref r) H'
section
variable {P : Program} {w : World} {K : PySem.W.Frag} {mg : Str → Option Value} {base : Heap} {C f fW fL fK fN fS : Addr} {fd fdW fdL fdK fdN fdS : FuncData}
theorem scSp : FnScope ["calls", "parted", "at", "behind"] ["calls"] (defScope sSplit) := ⟨rfl, rfl, rfl, by decide +kernel, rfl, by decide +kernel, by decide +kernel⟩
theorem cut_numbers {xs : List (Int × List Int)} {j : Nat} {x : Int × List Int} (h : xs[j]? = some x) :
    cutV ((xs.flatMap enc).map V.int) (some ((posOf xs j : Nat) + 2 : Int)) (some ((posOf xs j : Nat) + 2 + (x.2.length : Int))) = x.2.map V.int := by
  have hl := posOf_lt h
  unfold cutV
  rw [show ((posOf xs j : Nat) + 2 : Int) = ((posOf xs j + 2 : Nat) : Int) by omega, show (((posOf xs j + 2 : Nat) : Int) + (x.2.length : Int)) = ((posOf xs j + 2 + x.2.length : Nat) : Int) by omega, HT.sIx_nat, HT.sIx_nat, List.length_map, Nat.min_eq_left (by omega), Nat.min_eq_left (by omega), Nat.add_sub_cancel_left, ← List.map_drop, ← List.map_take, at_numbers h]
theorem ok_split (F : Fun K "split_calls" "split_calls" sSplit f fd) (T : Txt K mg C) : FnOk P w K mg base CX0 1 f fd ["calls"] (spSplit K) := by
  refine F.ok scSp (fun vs H Q E h => ?_) (fun cdv A outer s H vs Q E hr h => ?_)
  · obtain ⟨a, xs, rfl, _⟩ := h
    rfl
  · obtain ⟨a, xs, rfl, ha, h60, k⟩ := h
    refine ⟨_, pss_cons (ps_set (i := 1) scSp.nd rfl (Or.inl rfl) (pe_lst pa_nil))
      (pss_cons (ps_set (i := 2) scSp.nd rfl (Or.inl rfl) pe_int)
      (pss_cons (ps_while PassesOwn.never (pt_cmpR op_lt (pv 2) (pe_callB call_len_seq (by rfl) T.len PySem.boot_len (pa_cons (pv 0) pa_nil)) (nomark _))
        (pss_cons (ps_set (i := 3) scSp.nd rfl (Or.inl rfl) (pe_op op_add (pe_op op_add (pv 2) pe_int) (pe_ix ix_list (pv 0) (pe_op op_add (pv 2) pe_int) (fun _ _ => rfl))))
        (pss_cons (ps_expr (pe_bm PySem.F.plainAttrs_list PySem.F.slot_list_append PySem.F.type_list_append mt_append (pv 1) (pa_cons (pe_tup (pa_cons (pe_ix ix_list (pv 0) (pv 2) (fun _ _ => rfl)) (pa_cons (pe_slice sl_list (pv 0) (po_some (pe_op op_add (pv 2) pe_int)) (po_some (pv 3))) pa_nil))) pa_nil)))
        (pss_one (ps_set (i := 2) scSp.nd rfl (Or.inl rfl) (pe_op op_add (pv 3) pe_int))))))
      (pss_one (ps_ret (pv 1))))), ?_⟩
    refine ⟨Nat.zero_le _, fun r n0 => ?_⟩
    refine ⟨fun m σ H' => ∃ (j : Nat) (ts : List Addr) (v3 : Option V), m = xs.length - j ∧ j ≤ xs.length ∧ σ = [some (.ref a), some (.ref r), some (.int (posOf xs j : Nat)), v3] ∧ Same H H' ∧ H' r = some (.lst (ts.map V.ref)) ∧ PartsAt H H' r ts (xs.take j),
      ⟨_, 0, [], none, rfl, Nat.zero_le _, rfl, same_new n0, upd_same, ⟨rfl, fun j t x h => by simp at h⟩⟩, ?_⟩
    rintro m σ H' ⟨j, ts, v3, rfl, hj, rfl, s1, hr, hP⟩
    refine ⟨_, rfl, _, rfl, a, _, rfl, .inl (s1.seq ha), _, _, rfl, rfl, _, rfl, ?_⟩
    rw [List.length_map]
    by_cases hlt : j < xs.length
    · have hx : xs[j]? = some xs[j] := List.getElem?_eq_getElem hlt
      generalize xs[j] = x at hx
      have hpl := posOf_lt hx
      refine iteP (by omega) ?_
      refine ⟨fun σ' H' => ∃ (ts : List Addr) (v3 : Option V), σ' = [some (.ref a), some (.ref r), some (.int (posOf xs (j + 1) : Nat)), v3] ∧ Same H H' ∧ H' r = some (.lst (ts.map V.ref)) ∧ PartsAt H H' r ts (xs.take (j + 1)),
        fun σ' H' ⟨ts, v3, e1, e2, e3, e4⟩ => ⟨xs.length - (j + 1), by omega, j + 1, ts, v3, rfl, hlt, e1, e2, e3, e4⟩, ?_⟩
      -- behind = at + 2 + calls[at + 1]
      refine ⟨_, rfl, _, _, rfl, rfl, _, rfl, _, rfl, _, _, rfl, rfl, a, _, _, _, rfl, rfl, s1.seq ha, at_of (j := posOf xs j + 1) (v := V.int (x.2.length : Nat)) (by omega) (by rw [List.getElem?_map, at_count hx]; rfl), _, _, rfl, rfl, ?_⟩
      -- parted.append((calls[at], calls[at + 2:behind]))
      refine ⟨_, rfl, .inl ⟨rfl, _, .of hr⟩, _, rfl, _, rfl, a, _, _, _, rfl, rfl, s1.seq ha, atI_nat (v := V.int x.1) (by rw [List.getElem?_map, at_place hx]; rfl), ?_⟩
      refine ⟨_, rfl, _, rfl, _, _, rfl, rfl, _, rfl, _, rfl, _, rfl, a, _, rfl, s1.seq ha, fun an nn => ?_⟩
      rw [cut_numbers hx]
      refine ⟨(by show 2 ≤ sizeLine; decide), fun t nt => ?_⟩
      have nt' : H' t = none := un nt
      have rn : r ≠ an := ne_of_none hr nn
      have rt : r ≠ t := ne_of_none hr nt'
      have ant : an ≠ t := ne_of_none upd_same nt
      have htl : ts.length = j := by rw [hP.len, List.length_take]; omega
      refine ⟨r, _, _, rfl, rfl, (by rw [upd_ne rt, upd_ne rn]; exact hr), (by rw [List.length_map, htl]; exact Nat.lt_of_lt_of_le hlt (Nat.le_trans h60 (by decide))), ?_⟩
      -- at = behind + 1
      refine ⟨_, rfl, _, _, rfl, rfl, ?_⟩
      refine ⟨ts ++ [t], some (.int ((posOf xs j : Nat) + 2 + (x.2.length : Nat))), ?_, ?_, ?_, ⟨?_, ?_⟩⟩
      · rw [posOf_succ hx]
        show [some (V.ref a), some (.ref r), some (.int _), some (.int _)] = _
        rw [show (((posOf xs j : Nat) : Int) + 2 + (x.2.length : Nat) + 1) = ((posOf xs j + x.2.length + 3 : Nat) : Int) by omega]
      · exact same_put (same_put (same_put s1 (s1.free nn)) (s1.free nt')) n0
      · rw [upd_same, List.map_append]; rfl
      · rw [List.length_append, htl, List.length_take, Nat.min_eq_left hlt]; rfl
      · intro i u y hu hy
        by_cases hi : i < ts.length
        · rw [List.getElem?_append_left hi] at hu
          rw [List.getElem?_take_of_lt (by omega)] at hy
          obtain ⟨h0, ai, h1, h2, hai, h3⟩ := hP.at_ i u y hu (by rw [List.getElem?_take_of_lt (by omega)]; exact hy)
          refine ⟨h0, ai, ?_, ?_, hai, h3⟩
          · rw [upd_ne (ne_of h1 hr (by intro z; cases z)), upd_ne (ne_of_none h1 nt'), upd_ne (ne_of_none h1 nn)]; exact h1
          · rw [upd_ne hai, upd_ne (ne_of_none h2 nt'), upd_ne (ne_of_none h2 nn)]; exact h2
        · have ei : i = ts.length := by
            have := (List.getElem?_eq_some_iff.mp hu).1
            rw [List.length_append, List.length_singleton] at this
            omega
          subst ei
          rw [List.getElem?_concat_length] at hu
          have eu := Option.some.inj hu
          subst eu
          rw [htl, List.getElem?_take_of_lt (Nat.lt_succ_self j), hx] at hy
          have ey := Option.some.inj hy
          subst ey
          exact ⟨s1.free nt', an, by rw [upd_ne rt.symm, upd_same], by rw [upd_ne rn.symm, upd_ne ant, upd_same], rn.symm, s1.free nn⟩
    · have ej : j = xs.length := by omega
      subst ej
      rw [List.take_length] at hP
      refine iteN (by rw [posOf_all]; omega) ?_
      exact ⟨_, rfl, k H' r ts s1 n0 hr hP⟩
def spAns (K : PySem.W.Frag) : Sp := fun vs H Q _ => ∃ (a : Addr) (xs : List (Int × List Int)), vs = [.ref a] ∧ SqL K H a ((xs.flatMap enc).map V.int) ∧ xs.length ≤ 60 ∧ (∀ x ∈ xs, Asked1 x) ∧ (runs Sx07.init xs).2.length ≤ 1000060 ∧
  ∀ (H' : Hp) (r : Addr), H' r = some (.lst ((runs Sx07.init xs).2.map V.int)) → Q (.ref r) H'
theorem scA : FnScope ["calls", "house", "told", "call", "numbers", "answer"] ["calls"] (defScope sAns) := ⟨rfl, rfl, rfl, by decide +kernel, rfl, by decide +kernel, by decide +kernel⟩
structure Table (P : Program) (w : World) (K : PySem.W.Frag) (mg : Str → Option Value) (base : Heap) (C : Addr) (k : Nat) (fs : List Addr) : Prop where
  tab : ∃ a, mg "CALLS" = some (.ref a) ∧ ∀ H, SqT K H a (fs.map V.ref)
  ok : ∀ (i : Nat) (f : Addr), fs[i]? = some f → (∃ (j : Nat) (fd : FuncData) (ps : List Str), j ≤ k ∧ FnOk P w K mg base CX0 j f fd ps (spCall K C (i : Nat)) ∧ Binds K fd ps []) ∧ PySem.W.keepIn K (.ref f) = true
theorem ok_ans {fs : List Addr} (F : Fun K "answers" "answers" sAns f fd) (T : Txt K mg C) (M : Mk K C fK) (FI : Fun K "__init__" "House.__init__" sInit fK fdK) (bI : Binds K fdK ["self"] []) (GS : Glob P w K mg base "split_calls" 1 fS fdS ["calls"] (spSplit K))
    (GT : Table P w K mg base C 14 fs) (hall : ∀ x : Int × List Int, Asked1 x → x.1.toNat < fs.length) : FnOk P w K mg base CX0 15 f fd ["calls"] (spAns K) := by
  have GI : FnOk P w K mg base CX0 1 fK fdK ["self"] (spInit C) := ok_init FI T
  refine F.ok scA (fun vs H Q E h => ?_) (fun cdv A outer s H vs Q E hr h => ?_)
  · obtain ⟨a, xs, rfl, _⟩ := h
    rfl
  · obtain ⟨a, xs, rfl, ha, h60, hask, hsz, k⟩ := h
    obtain ⟨aT, mT, qT⟩ := GT.tab
    have hr1 : Room 1 _ := hr.mono (by decide)
    have hr2 : Room 2 _ := hr.mono (by decide)
    refine ⟨_, pss_cons (ps_set (i := 1) scA.nd rfl (Or.inl rfl) (pe_make0 M GI hr2 rfl T.mgC bI .nil pass0))
      (pss_cons (ps_set (i := 2) scA.nd rfl (Or.inl rfl) (pe_lst pa_nil))
      (pss_cons (ps_for PassesOwn.never rfl (pi_list (pe_g GS hr1 (pa_cons (pv 0) pa_nil))) (pg_tup rfl (pgs_cons (pg_name (i := 3) scA.nd rfl (Or.inl rfl)) (pgs_cons (pg_name (i := 4) scA.nd rfl (Or.inl rfl)) pgs_nil)))
        (pss_cons (ps_set (i := 5) scA.nd rfl (Or.inl rfl) (pe_callC (fs.zipIdx.map fun p => (p.1, spCall K C (p.2 : Nat))) (fun p hp => ?ok) (pe_ix ix_tup (pe_glob (v := V.ref aT) (by rfl) mT rfl) (pv 3) (fun _ _ => rfl)) (pa_cons (pv 1) (pa_cons (pv 4) pa_nil))))
        (pss_cons (ps_expr (pe_bm PySem.F.plainAttrs_list PySem.F.slot_list_append PySem.F.type_list_append mt_append (pv 2) (pa_cons (pe_callB call_len_seq (by rfl) T.len PySem.boot_len (pa_cons (pv 5) pa_nil)) pa_nil)))
        (pss_one (ps_expr (pe_bm PySem.F.plainAttrs_list PySem.F.slot_list_extend PySem.F.type_list_extend mt_extend (pv 2) (pa_cons (pv 5) pa_nil)))))))
      (pss_one (ps_ret (pv 2))))), ?_⟩
    case ok =>
      obtain ⟨q, hq, e⟩ := List.mem_map.mp hp
      subst e
      have hq1 := List.mem_zipIdx_iff_getElem?.mp hq
      obtain ⟨⟨j, fd', ps, hj, F', b'⟩, kp⟩ := GT.ok q.2 q.1 hq1
      exact ⟨⟨j, fd', ps, F', hr.mono hj, b'⟩, kp⟩
    -- house = House()
    intro hp dx n1 n2 n3
    refine ⟨hp, dx, rfl, upd_same, fun H1 ac0 ap0 hh0 k1 f1 f2 => ⟨rfl, ?_⟩⟩
    have s01 : Same H H1 := Same.made n1 n2 k1
    -- told = []
    refine ⟨Nat.zero_le _, fun tl ntl => ?_⟩
    have s12 : Same H1 (upd H1 tl (.lst [])) := same_new ntl
    have s02 := s01.trans s12
    -- split_calls(calls)
    refine ⟨_, rfl, a, xs, rfl, s02.seq ha, h60, fun H3 r ts s23 nr hr3 hP => ?_⟩
    have s03 := s02.trans s23
    have h3 := (hh0.same s12).same s23
    have htl3 : H3 tl = some (.lst []) := s23 _ _ upd_same
    obtain ⟨dx0, hi0⟩ := hh0.ins
    have tl_hp : tl ≠ hp := (ne_of_none hi0 ntl).symm
    have tl_ac : tl ≠ ac0 := (ne_of_none hh0.case_ ntl).symm
    have tl_ap : tl ≠ ap0 := (ne_of_none hh0.pages ntl).symm
    refine ⟨r, rfl, ⟨_, .of hr3⟩, for_list (K := K) (a := r) (xs := ts.map V.ref) (fun i σ H' => ∃ (v3 v4 v5 : Option V) (ac ap : Addr) (as : List Addr), σ = [some (.ref a), some (.ref hp), some (.ref tl), v3, v4, v5] ∧ HouseAt C H' hp ac ap as (runs Sx07.init (xs.take i)).1 ∧
        H' tl = some (.lst ((runs Sx07.init (xs.take i)).2.map V.int)) ∧ (∀ b o, H3 b = some o → b ≠ hp → b ≠ ac0 → b ≠ ap0 → b ≠ tl → H' b = some o) ∧ (ac = ac0 ∨ H3 ac = none) ∧ (ap = ap0 ∨ H3 ap = none) ∧ (∀ b, H' b = none → H3 b = none) ∧ tl ∉ as)
      ⟨none, none, none, ac0, ap0, [], rfl, h3, htl3, fun b o e _ _ _ _ => e, .inl rfl, .inl rfl, fun b e => e, by simp⟩ ?_ ?_ ?_⟩
    · rintro i σ H' _ ⟨v3, v4, v5, ac, ap, as, rfl, hh, ht, fr, q1, q2, q3, q4⟩
      refine .of (fr _ _ hr3 ?_ ?_ ?_ ?_)
      · exact (ne_of_none (s12 _ _ hi0) nr).symm
      · exact (ne_of_none (s12 _ _ hh0.case_) nr).symm
      · exact (ne_of_none (s12 _ _ hh0.pages) nr).symm
      · exact (ne_of_none upd_same nr).symm
    · rintro i y σ H' hy ⟨v3, v4, v5, ac, ap, as, rfl, hh, ht, fr, q1, q2, q3, q4⟩
      obtain ⟨t, hti, rfl⟩ := getElem?_map_some hy
      have hix : i < xs.length := by rw [← hP.len]; exact (List.getElem?_eq_some_iff.mp hti).1
      have hx : xs[i]? = some xs[i] := List.getElem?_eq_getElem hix
      generalize xs[i] = x at hx
      have hax := hask x (List.mem_of_getElem? hx)
      obtain ⟨nt0, an, ht3, han3, _, nan⟩ := hP.at_ i t x hti hx
      have kept : ∀ b o, H3 b = some o → (upd H1 tl (.lst [])) b = none → H' b = some o := fun b o e nb => by
        refine fr b o e ?_ ?_ ?_ ?_
        · exact (ne_of_none (s12 _ _ hi0) nb).symm
        · exact (ne_of_none (s12 _ _ hh0.case_) nb).symm
        · exact (ne_of_none (s12 _ _ hh0.pages) nb).symm
        · exact (ne_of_none upd_same nb).symm
      have ht' := kept _ _ ht3 nt0
      have han' := kept _ _ han3 nan
      obtain ⟨l, el⟩ := hax.nats
      have hpl := hax.place
      obtain ⟨p, ep⟩ : ∃ p : Nat, x.1 = (p : Int) := ⟨x.1.toNat, by omega⟩
      have hpf : p < fs.length := by have := hall x hax; rw [ep, Int.toNat_natCast] at this; exact this
      have hf : fs[p]? = some fs[p] := List.getElem?_eq_getElem hpf
      generalize fs[p] = fp at hf
      have tl_hp' : tl ≠ hp := tl_hp
      have tl_ac' : tl ≠ ac := by
        rcases q1 with z | z
        · rw [z]; exact tl_ac
        · exact (ne_of_none htl3 z)
      have tl_ap' : tl ≠ ap := by
        rcases q2 with z | z
        · rw [z]; exact tl_ap
        · exact (ne_of_none htl3 z)
      refine ⟨t, _, rfl, .of ht', rfl, _, _, rfl, _, _, rfl, rfl, ?_⟩
      -- answer = CALLS[call](house, numbers)
      refine ⟨_, rfl, aT, _, _, _, rfl, rfl, qT _, at_of (j := p) (v := V.ref fp) ep (by rw [List.getElem?_map, hf]; rfl), fp, spCall K C (p : Nat), rfl, List.mem_map.mpr ⟨(fp, p), List.mem_zipIdx_iff_getElem?.mpr hf, rfl⟩, _, rfl, _, rfl, ?_⟩
      refine ⟨hp, an, ac, ap, as, _, l, rfl, hh, runs_good good_init _, .of (by rw [han', el, ← vN_iN]), ?_, ?_⟩
      · have := hax
        obtain ⟨x1, x2⟩ := x
        dsimp only at ep el
        rw [ep, el] at this
        exact this
      intro H5 ra ac' ap' as' hh5 nra era fr5 c1 c2 c3 c4
      have esn : runs Sx07.init (xs.take (i + 1)) = ((Sx07Neutral.step (runs Sx07.init (xs.take i)).1 [(p : Int) :: iN l]).1, (runs Sx07.init (xs.take i)).2 ++ (((Sx07Neutral.step (runs Sx07.init (xs.take i)).1 [(p : Int) :: iN l]).2.length : Int) :: (Sx07Neutral.step (runs Sx07.init (xs.take i)).1 [(p : Int) :: iN l]).2)) := by
        rw [take_snoc' hx, runs_snoc, ep, el]
      have hlen := runs_take_len xs Sx07.init (i + 1)
      generalize Sx07Neutral.step (runs Sx07.init (xs.take i)).1 [(p : Int) :: iN l] = y at *
      rw [esn, List.length_append, List.length_cons] at hlen
      have line : 1000060 < sizeLine := by decide
      have ht5 : H5 tl = some (.lst ((runs Sx07.init (xs.take i)).2.map V.int)) := fr5 _ _ ht tl_hp' tl_ac' tl_ap'
      have tlra : tl ≠ ra := ne_of_none ht nra
      obtain ⟨dx5, hi5⟩ := hh5.ins
      -- told.append(len(answer)); told.extend(answer)
      refine ⟨_, rfl, .inl ⟨rfl, _, .of ht5⟩, _, rfl, ra, _, rfl, .inl (.of era), tl, _, _, rfl, rfl, ht5, (by rw [List.length_map]; omega), ?_⟩
      refine ⟨_, rfl, .inl ⟨rfl, _, .of upd_same⟩, _, rfl, tl, ra, _, _, rfl, rfl, upd_same, (by rw [upd_ne tlra.symm]; exact era), (by rw [List.length_append, List.length_map, List.length_map, List.length_singleton]; omega), ?_⟩
      have tlac5 : tl ≠ ac' := by
        rcases c1 with z | z
        · rw [z]; exact tl_ac'
        · exact ne_of_none ht z
      have tlap5 : tl ≠ ap' := by
        rcases c2 with z | z
        · rw [z]; exact tl_ap'
        · exact ne_of_none ht z
      refine ⟨_, _, _, ac', ap', as', rfl, ?_, ?_, fun b o e b1 b2 b3 b4 => ?_, ?_, ?_, fun b e => q3 b (c3 b (un (un e))), fun z => ?_⟩
      · rw [esn]
        refine ⟨⟨dx5, ?_⟩, ?_, ?_, hh5.len, fun j u q hu hq => ?_, hh5.ne, hh5.nc, hh5.np⟩
        · rw [upd_ne tl_hp'.symm, upd_ne tl_hp'.symm]; exact hi5
        · rw [upd_ne tlac5.symm, upd_ne tlac5.symm]; exact hh5.case_
        · rw [upd_ne tlap5.symm, upd_ne tlap5.symm]; exact hh5.pages
        · have hut : u ≠ tl := fun z => by
            rcases c4 u (List.mem_of_getElem? hu) with y | y
            · exact q4 (by rw [← z]; exact y)
            · exact ne_of_none ht y z.symm
          rw [upd_ne hut, upd_ne hut]; exact hh5.at_ j u q hu hq
      · rw [upd_same, esn, List.map_append, List.map_cons, List.length_map, List.append_assoc]; rfl
      · rw [upd_ne b4, upd_ne b4]
        refine fr5 b o (fr b o e b1 b2 b3 b4) b1 ?_ ?_
        · rcases q1 with z | z
          · rw [z]; exact b2
          · exact ne_of_none e z
        · rcases q2 with z | z
          · rw [z]; exact b3
          · exact ne_of_none e z
      · rcases c1 with z | z
        · rw [z]; exact q1
        · exact .inr (q3 _ z)
      · rcases c2 with z | z
        · rw [z]; exact q2
        · exact .inr (q3 _ z)
      · rcases c4 tl z with y | y
        · exact q4 y
        · exact ne_of_none ht y rfl
    · rintro σ H' ⟨v3, v4, v5, ac, ap, as, rfl, hh, ht, fr, q1, q2, q3, q4⟩
      rw [List.length_map, hP.len, List.take_length] at ht
      exact ⟨_, rfl, k H' tl ht⟩
end
end TC
end
section
set_option Elab.async false
set_option linter.all false
set_option maxRecDepth 100000
set_option maxHeartbeats 2000000
namespace TC
open PySem PySem.Spec PyProof.Rows L2
theorem ixK {X : Cx} {K : PySem.W.Frag} (h : X.K = K := by rfl) : IxR X (rIxL K) := h ▸ ix_list
theorem ixKT {X : Cx} {K : PySem.W.Frag} (h : X.K = K := by rfl) : IxR X (rIxT K) := h ▸ ix_tup
theorem sumK {X : Cx} {K : PySem.W.Frag} (hc : X.calm = true) (h : X.K = K := by rfl) : CallR X (.builtin "sum") (rSum K) := h ▸ cr_sum hc
def tTru (K : PySem.W.Frag) (ta : TE) : TT := fun σ H Q => ta σ H fun x H' => ∃ k, TruV K x H' k ∧ Q k H'
theorem truK {X : Cx} {K : PySem.W.Frag} {a : Expr} {ta : TE} (ha : PE X a ta) (he : ∀ whole, isTrue a X.env whole = (do let v ← whole; standAt a.pos; holding [v] (truthy v))) (h : X.K = K := by rfl) : PT X a (tTru K ta) := h ▸ pt_truth ha he
theorem refs_zip {α : Type} : ∀ (ys : List Addr) (ws : List α), ys.length ≤ ws.length → ys.map V.ref = (ys.zip ws).map fun x => V.ref x.1
  | [], _, _ => rfl
  | y :: ys, [], h => by simp at h
  | y :: ys, w :: ws, h => by
    rw [List.zip_cons_cons, List.map_cons, List.map_cons, refs_zip ys ws (by simpa using h)]
theorem line1000 : 1000 ≤ sizeLine := by decide
theorem shl_nat (i : Nat) : (1 : Int) * 2 ^ ((i : Nat) : Int).toNat = ((2 ^ i : Nat) : Int) := by
  rw [Int.toNat_natCast, Int.one_mul, two_pow_nat]
theorem bor_nat (a b : Nat) : Builtin.bitOr (a : Int) (b : Int) = ((a ||| b : Nat) : Int) := by
  rw [Bits.bitOr_pp (Int.natCast_nonneg _) (Int.natCast_nonneg _), Int.toNat_natCast, Int.toNat_natCast]
theorem bxor_nat (a b : Nat) : Builtin.bitXor (a : Int) (b : Int) = ((a ^^^ b : Nat) : Int) := by
  rw [Bits.bitXor_pp (Int.natCast_nonneg _) (Int.natCast_nonneg _), Int.toNat_natCast, Int.toNat_natCast]
theorem pow_le256 {n : Nat} (h8 : n ≤ 8) : 2 ^ n ≤ 256 := Nat.pow_le_pow_right (by decide) h8
def NewL (H : Hp) (xs : List V) (Q : VK) : Prop := ∀ (H' : Hp) (r : Addr), Same H H' → H r = none → H' r = some (.lst xs) → Q (.ref r) H'
section
variable {P : Program} {w : World} {K : PySem.W.Frag} {mg : Str → Option Value} {base : Heap} {C f fA fB fW fK fI fN fC : Addr} {fd fdA fdB fdW fdK fdI fdN fdC : FuncData}
def spBits : Sp := fun vs H Q _ => ∃ m : Nat, vs = [.int m] ∧ m < 2 ^ 16 ∧ NewL H (vN (bitsL m)) Q
theorem scBi : FnScope ["mask", "number"] ["mask"] (defScope sBits) := ⟨rfl, rfl, rfl, by decide +kernel, rfl, by decide +kernel, by decide +kernel⟩
theorem ok_bits (F : Fun K "bits_of" "bits_of" sBits f fd) (T : Txt K mg C) : FnOk P w K mg base CX0 1 f fd ["mask"] spBits := by
  refine F.ok scBi (fun vs H Q E h => ?_) (fun cdv A outer s H vs Q E hr h => ?_)
  · obtain ⟨m, rfl, _⟩ := h
    rfl
  · obtain ⟨m, rfl, hm, k⟩ := h
    refine ⟨_, pss_one (ps_ret (pe_lc (own := [("number", 1)]) (g := gName 1) rfl scBi.nd (pi_range1 (by rfl) T.range (pa_cons (pe_bm0 PySem.F.plainAttrs_int PySem.F.slot_int_bit_length PySem.F.type_int_bit_length mt_bitlen (pv 0)) pa_nil)) (blkOk_by (by show blkC ["mask", "number"] (defScope sBits) _ [("number", 1)] = true; decide +kernel))
        (fun s H C cl fp => by exact pg_name (i := 1) scBi.nd rfl (Or.inl rfl))
        (fun s H C cl fp => by exact pts_one (truK (K := K) (pe_op op_and (pe_op op_shr (pv 0) (pv 1)) pe_int) (fun _ => rfl)))
        (fun s H C cl fp => by exact pe_op op_shl pe_int (pv 1)))), ?_⟩
    have hb := intBits_nat m
    have hb16 := intBits_le hm
    refine ⟨_, rfl, rfl, (m : Int), rfl, rfl, _, rfl, (by omega), (by omega), fun D hD => ?_⟩
    rw [Int.toNat_natCast]
    refine lc_rangeF (n := Builtin.Int.intBits (m : Int)) (fun i => m.testBit i) (fun i => V.int ((2 ^ i : Nat) : Int)) hD (Nat.le_trans (Nat.le_trans hb16 (by decide)) line1000) ?_ ?_
    · intro x H4 R hx _ k4
      refine k4 _ rfl (fun Q q => ⟨_, rfl, _, rfl, _, _, rfl, rfl, (by show (0 : Int) ≤ (x : Int); omega), _, _, rfl, rfl, _, rfl, ?_⟩) (fun _ H' Q _ q => ?_)
      · rw [bit_test]; exact q _ (same_refl _)
      · refine ⟨_, rfl, _, _, rfl, rfl, ⟨(by show (0 : Int) ≤ (x : Int); omega), (by show (x : Int) ≤ 1000000; omega), (by decide)⟩, ?_⟩
        dsimp only
        rw [shl_nat]; exact q _ (same_refl _)
    · intro H5 s5 h5
      refine k H5 D s5 hD ?_
      rw [h5, bitsL_eq hb hb16, vN, List.map_map]
      rfl
def spWantBy (K : PySem.W.Frag) : Sp := fun vs H Q _ => ∃ (ac ap : Addr) (c : List Nat) (as : List Addr) (pages : List (List Nat)), vs = [.ref ac, .ref ap] ∧ SqL K H ac (vN c) ∧ PagesAt K H ap as pages ∧ (∀ p ∈ pages, p.length = c.length) ∧ c.length ≤ 32 ∧ pages.length ≤ 8 ∧
  ∀ (H' : Hp) (r : Addr) (ys : List Addr), Same H H' → H r = none → H' r = some (.lst (ys.map V.ref)) → PagesAt K H' r ys (wantL c.length pages) → Q (.ref r) H'
theorem scWB : FnScope ["case", "pages", "wanted", "wants", "without"] ["case", "pages"] (defScope sWantBy) := ⟨rfl, rfl, rfl, by decide +kernel, rfl, by decide +kernel, by decide +kernel⟩
theorem zeros_rep (n : Nat) : (List.replicate n [V.int 0]).flatten = vN (Sx07.zeros n) := by
  unfold Sx07.zeros vN
  rw [List.map_replicate]
  induction n with
  | zero => rfl
  | succ n ih => rw [List.replicate_succ, List.flatten_cons, ih, List.replicate_succ]; rfl
theorem ok_wantBy (F : Fun K "wanted_by_mask" "wanted_by_mask" sWantBy f fd) (T : Txt K mg C) (GA : Glob P w K mg base "added" 1 fA fdA ["some", "more"] (spZip K fun x y => x + y)) : FnOk P w K mg base CX0 2 f fd ["case", "pages"] (spWantBy K) := by
  refine F.ok scWB (fun vs H Q E h => ?_) (fun cdv A outer s H vs Q E hr h => ?_)
  · obtain ⟨ac, ap, c, as, pages, rfl, _⟩ := h
    rfl
  · obtain ⟨ac, ap, c, as, pages, rfl, hc, hp, hlen, hk, h8, k⟩ := h
    refine ⟨_, pss_cons (ps_set (i := 2) scWB.nd rfl (Or.inl rfl) (pe_lst (pa_cons (pe_op op_rep (pe_lst (pa_cons pe_int pa_nil)) (pe_callB call_len_seq (by rfl) T.len PySem.boot_len (pa_cons (pv 0) pa_nil))) pa_nil)))
      (pss_cons (ps_for PassesOwn.never rfl (pi_list (pv 1)) (pg_name (i := 3) scWB.nd rfl (Or.inr rfl))
        (pss_one (ps_set (i := 2) scWB.nd rfl (Or.inl rfl) (pe_op op_cat (pv 2) (pe_lc (own := [("without", 4)]) (g := gName 4) (tt := tYes) rfl scWB.nd (pi_list (pv 2)) (blkOk_by (by show blkC ["case", "pages", "wanted", "wants", "without"] (defScope sWantBy) _ [("without", 4)] = true; decide +kernel))
          (fun s H C cl fp => by exact pg_name (i := 4) scWB.nd rfl (Or.inl rfl))
          (fun s H C cl fp => by exact pts_nil)
          (fun s H C cl fp => by exact pe_g GA hr (pa_cons (pv 4) (pa_cons (pv 3) pa_nil))))))))
      (pss_one (ps_ret (pv 2)))), ?_⟩
    refine ⟨(by show 1 ≤ sizeLine; decide), fun p0 h0 => ?_⟩
    refine ⟨_, rfl, ac, _, rfl, .inl ((same_new h0).seq hc), ?_⟩
    refine ⟨p0, _, _, rfl, rfl, upd_same, ?_, ?_, ?_, fun az hz => ?_⟩
    · rw [List.length_map]; omega
    · rw [List.length_map]; omega
    · rw [List.length_map, Int.toNat_natCast]; show 1 * c.length ≤ sizeLine; exact Nat.le_trans (by omega) line1000
    rw [List.length_map, Int.toNat_natCast, zeros_rep]
    have s1 : Same H (upd (upd H p0 (.lst [V.int 0])) az (.lst (vN (Sx07.zeros c.length)))) := (same_new h0).trans (same_new hz)
    refine ⟨(by show 1 ≤ sizeLine; decide), fun aw hw => ?_⟩
    have s2 := s1.trans (same_new (o := .lst [V.ref az]) hw)
    have zw : az ≠ aw := ne_of_none upd_same hw
    refine ⟨_, rfl, ap, rfl, ⟨_, s2.seq hp.lst⟩, for_list (K := K) (a := ap) (xs := as.map V.ref) (fun i σ H' => ∃ (aw : Addr) (v3 : Option V) (ys : List Addr), σ = [some (.ref ac), some (.ref ap), some (.ref aw), v3, none] ∧ Same H H' ∧ H aw = none ∧
        H' aw = some (.lst (ys.map V.ref)) ∧ ys.length = 2 ^ i ∧ (∀ (j : Nat) (y : Addr) (q : List Nat), ys[j]? = some y → (wantL c.length (pages.take i))[j]? = some q → H' y = some (.lst (vN q)))) ?_ (fun i σ H' _ ⟨_, _, _, _, s2, _⟩ => s2.seq hp.lst) ?_ ?_⟩
    · refine ⟨aw, none, [az], rfl, s2, s1.free hw, upd_same, rfl, fun j y q h1 h2 => ?_⟩
      match j, h1 with
      | 0, h1 =>
        cases h1
        have h2' : some (Sx07.zeros c.length) = some q := h2
        cases h2'
        rw [upd_ne zw, upd_same]
    · rintro i x σ H' hi ⟨aw, v3, ys, rfl, s2, fw, hw, hyl, hy⟩
      obtain ⟨a, ha, rfl⟩ := getElem?_map_some hi
      have hip : i < pages.length := by rw [← hp.len]; exact (List.getElem?_eq_some_iff.mp ha).1
      have hpi : pages[i]? = some pages[i] := List.getElem?_eq_getElem hip
      generalize pages[i] = p at hpi
      have hti : (pages.take i).length = i := by rw [List.length_take]; omega
      have hwl : (wantL c.length (pages.take i)).length = 2 ^ i := by rw [wantL_length, hti]
      have h2i : 2 ^ i ≤ 256 := pow_le256 (by omega)
      refine ⟨_, rfl, _, rfl, aw, rfl, ⟨_, .of hw⟩, fun D hD => ?_⟩
      refine lc_listA (K := K) (a := aw) (ea := fun x : Addr × List Nat => V.ref x.1) (as := ys.zip (wantL c.length (pages.take i))) (fun x => Sx07.plus x.2 p) hD (.of (by rw [hw, refs_zip ys (wantL c.length (pages.take i)) (by omega)])) (by rw [List.length_zip, hyl, hwl, Nat.min_self]; exact Nat.le_trans h2i (by decide)) ?_ ?_
      · intro x H4 R hx s4 k4
        obtain ⟨j, hj⟩ := List.mem_iff_getElem?.mp hx
        obtain ⟨hj1, hj2⟩ := List.getElem?_zip_eq_some.mp hj
        refine k4 _ rfl fun Q q => ⟨_, rfl, _, rfl, x.1, a, x.2, p, rfl, .of (s4 _ _ (hy j _ _ hj1 hj2)), (s2.trans s4).seq (hp.at_ i a p ha hpi), ?_, fun H5 r s5 n5 e5 => q H5 r s5 n5 e5⟩
        have : x.2.length = c.length := by
          have hm := List.mem_of_getElem? hj2
          unfold wantL at hm
          obtain ⟨m, _, e⟩ := List.mem_map.mp hm
          rw [← e]; exact wants_length fun q hq => hlen q (List.mem_of_mem_take hq)
        omega
      · intro H5 zs s5 h5 hzl hz
        refine ⟨aw, D, _, _, rfl, rfl, s5 _ _ hw, h5, ?_, fun r hr => ?_⟩
        · rw [List.length_map, List.length_map, hzl, List.length_zip, hyl, hwl, Nat.min_self]
          exact Nat.le_trans (Nat.add_le_add h2i h2i) (by decide)
        · refine ⟨r, _, ys ++ zs, rfl, (s2.trans s5).trans (same_new hr), (s2.trans s5).free hr, ?_, ?_, fun j y q h1 h2 => ?_⟩
          · rw [upd_same, List.map_append]
          · rw [List.length_append, hzl, List.length_zip, hyl, hwl, Nat.min_self, Nat.pow_succ, Nat.mul_two]
          · rw [take_snoc' hpi, wantL_snoc] at h2
            by_cases hj : j < 2 ^ i
            · rw [List.getElem?_append_left (by omega)] at h1 h2
              rw [(same_new hr) _ _ (s5 _ _ (hy j y q h1 h2))]
            · rw [List.getElem?_append_right (by omega)] at h1 h2
              rw [hyl] at h1
              rw [hwl, List.getElem?_map] at h2
              cases e : (wantL c.length (pages.take i))[j - 2 ^ i]? with
              | none => rw [e] at h2; cases h2
              | some q0 =>
                rw [e] at h2
                have h2' : Sx07.plus q0 p = q := Option.some.inj h2
                have hjl : j - 2 ^ i < 2 ^ i := by have := (List.getElem?_eq_some_iff.mp e).1; omega
                have e2 : (ys.zip (wantL c.length (pages.take i)))[j - 2 ^ i]? = some (ys[j - 2 ^ i]'(by omega), q0) := List.getElem?_zip_eq_some.mpr ⟨List.getElem?_eq_getElem _, e⟩
                rw [← h2', (same_new hr) _ _ (hz _ y _ h1 e2)]
    · rintro σ H' ⟨aw, v3, ys, rfl, s2, fw, hw, hyl, hy⟩
      rw [List.length_map, hp.len] at hyl hy
      rw [List.take_length] at hy
      exact ⟨_, rfl, k H' aw ys s2 fw hw ⟨.of hw, by rw [hyl, wantL_length], fun j a q h1 h2 => .of (hy j a q h1 h2)⟩⟩
end
end TC
end
section
set_option Elab.async false
set_option linter.all false
set_option maxRecDepth 100000
set_option maxHeartbeats 2000000
namespace TC
open PySem PySem.Spec PyProof.Rows L2
abbrev vB (l : List Bool) : List V := l.map V.bl
theorem zip_snd {α β γ : Type} (g : β → γ) : ∀ (ys : List α) (ws : List β), ws.length ≤ ys.length → (ys.zip ws).map (fun x => g x.2) = ws.map g
  | _, [], _ => by rw [List.zip_nil_right]; rfl
  | [], w :: ws, h => by simp at h
  | y :: ys, w :: ws, h => by
    rw [List.zip_cons_cons, List.map_cons, List.map_cons, zip_snd g ys ws (by simpa using h)]
theorem lackV_fits {c : List Nat} {pages : List (List Nat)} (hlen : ∀ p ∈ pages, p.length = c.length) (m : Nat) : decide (lackV c (Sx07.wants c.length pages m) = .non) = Sx07.fits c pages m := by
  have h := fits_firstLack (case_ := c) (w := Sx07.wants c.length pages m) (wants_length hlen).symm
  have e : Sx07.fits c pages m = (Sx07.lacks c (Sx07.wants c.length pages m)).all (fun x => x == 0) := rfl
  unfold lackV
  cases q : firstLack c (Sx07.wants c.length pages m) with
  | none => rw [e, h.mp q]; rfl
  | some i =>
    have : Sx07.fits c pages m = false := by
      rw [← Bool.not_eq_true, e, ← h, q]
      intro z; cases z
    rw [this]; rfl
theorem atI_bl {l : List Bool} {m : Nat} {b : Bool} (h : l[m]? = some b) : atI (vB l) (m : Nat) = some (V.bl b) := atI_nat (by rw [List.getElem?_map, h]; rfl)
section
variable {P : Program} {w : World} {K : PySem.W.Frag} {mg : Str → Option Value} {base : Heap} {C f fA fB fW fK fI fN fC : Addr} {fd fdA fdB fdW fdK fdI fdN fdC : FuncData}
def spCan (K : PySem.W.Frag) : Sp := fun vs H Q _ => ∃ (ac ap : Addr) (c : List Nat) (as : List Addr) (pages : List (List Nat)), vs = [.ref ac, .ref ap] ∧ SqL K H ac (vN c) ∧ PagesAt K H ap as pages ∧ (∀ p ∈ pages, p.length = c.length) ∧ c.length ≤ 32 ∧ pages.length ≤ 8 ∧
  NewL H (vB (fitsL c pages)) Q
theorem scCa : FnScope ["case", "pages", "wanted"] ["case", "pages"] (defScope sCan) := ⟨rfl, rfl, rfl, by decide +kernel, rfl, by decide +kernel, by decide +kernel⟩
theorem ok_can (F : Fun K "can_stand_by_mask" "can_stand_by_mask" sCan f fd) (T : Txt K mg C) (GW : Glob P w K mg base "wanted_by_mask" 2 fW fdW ["case", "pages"] (spWantBy K)) (GK : Glob P w K mg base "first_lacking" 1 fK fdK ["left", "wants"] (spLack K)) :
    FnOk P w K mg base CX0 3 f fd ["case", "pages"] (spCan K) := by
  refine F.ok scCa (fun vs H Q E h => ?_) (fun cdv A outer s H vs Q E hr h => ?_)
  · obtain ⟨ac, ap, c, as, pages, rfl, _⟩ := h
    rfl
  · obtain ⟨ac, ap, c, as, pages, rfl, hc, hp, hlen, hk, h8, k⟩ := h
    have hr1 : Room 1 _ := hr.mono (by decide)
    refine ⟨_, pss_one (ps_ret (pe_lc (own := [("wanted", 2)]) (g := gName 2) (tt := tYes) rfl scCa.nd (pi_list (pe_g GW hr (pa_cons (pv 0) (pa_cons (pv 1) pa_nil)))) (blkOk_by (by show blkC ["case", "pages", "wanted"] (defScope sCan) _ [("wanted", 2)] = true; decide +kernel))
        (fun s H C cl fp => by exact pg_name (i := 2) scCa.nd rfl (Or.inl rfl))
        (fun s H C cl fp => by exact pts_nil)
        (fun s H C cl fp => by exact pe_cmp (pc_isN (pe_g GK hr1 (pa_cons (pv 0) (pa_cons (pv 2) pa_nil))))))), ?_⟩
    refine ⟨_, rfl, _, rfl, ac, ap, c, as, pages, rfl, hc, hp, hlen, hk, h8, fun H1 r ys s1 n1 e1 hP => ?_⟩
    have h2n := pow_le256 h8
    have hyl : ys.length = (wantL c.length pages).length := hP.len
    have hwl := wantL_length c.length pages
    refine ⟨r, rfl, ⟨_, .of e1⟩, fun D hD => ?_⟩
    refine lc_listP (K := K) (a := r) (ea := fun x : Addr × List Nat => V.ref x.1) (as := ys.zip (wantL c.length pages)) (fun x => V.bl (decide (lackV c x.2 = .non))) hD (.of (by rw [e1, refs_zip ys (wantL c.length pages) (by omega)])) (by rw [List.length_zip, hyl, hwl, Nat.min_self]; exact Nat.le_trans h2n (by decide)) ?_ ?_
    · intro x H4 R hx s4 k4
      obtain ⟨j, hj⟩ := List.mem_iff_getElem?.mp hx
      obtain ⟨hj1, hj2⟩ := List.getElem?_zip_eq_some.mp hj
      have hxl : x.2.length = c.length := by
        have hm := List.mem_of_getElem? hj2
        unfold wantL at hm
        obtain ⟨m, _, e⟩ := List.mem_map.mp hm
        rw [← e]; exact wants_length hlen
      refine k4 _ rfl fun Q q => ⟨_, rfl, _, rfl, ac, x.1, c, x.2, rfl, (s1.trans s4).seq hc, s4.seq (hP.at_ j _ _ hj1 hj2), hxl.symm, by omega, q⟩
    · intro H5 s5 h5
      refine k H5 D (s1.trans s5) (s1.free hD) ?_
      rw [h5, zip_snd (fun w => V.bl (decide (lackV c w = .non))) ys _ (by omega)]
      unfold wantL fitsL vB
      rw [List.map_map, List.map_map]
      congr 2
      apply List.map_congr_left
      intro m _
      show V.bl (decide (lackV c (Sx07.wants c.length pages m) = .non)) = V.bl (Sx07.fits c pages m)
      rw [lackV_fits hlen]
def spIsFull (K : PySem.W.Frag) : Sp := fun vs H Q _ => ∃ (a : Addr) (m : Nat) (c : List Nat) (pages : List (List Nat)), vs = [.ref a, .int m] ∧ SqL K H a (vB (fitsL c pages)) ∧ pages.length ≤ 8 ∧ m < 2 ^ pages.length ∧
  ∀ H', Same H H' → Q (.bl (Sx07.fits c pages m && (List.range pages.length).all fun i => m.testBit i || !Sx07.fits c pages (m + 2 ^ i))) H'
theorem scIF : FnScope ["can_stand", "mask", "others", "bit"] ["can_stand", "mask"] (defScope sIsFull) := ⟨rfl, rfl, rfl, by decide +kernel, rfl, by decide +kernel, by decide +kernel⟩
theorem all_nat (n : Nat) : ((2 ^ n : Nat) : Int) - 1 = ((2 ^ n - 1 : Nat) : Int) := by have := Nat.two_pow_pos n; omega
theorem ok_isFull (F : Fun K "is_fullest" "is_fullest" sIsFull f fd) (T : Txt K mg C) (GB : Glob P w K mg base "bits_of" 1 fB fdB ["mask"] spBits) : FnOk P w K mg base CX0 2 f fd ["can_stand", "mask"] (spIsFull K) := by
  refine F.ok scIF (fun vs H Q E h => ?_) (fun cdv A outer s H vs Q E hr h => ?_)
  · obtain ⟨a, m, c, pages, rfl, _⟩ := h
    rfl
  · obtain ⟨a, m, c, pages, rfl, ha, h8, hm, k⟩ := h
    refine ⟨_, pss_cons (ps_set (i := 2) scIF.nd rfl (Or.inl rfl) (pe_op op_xor (pe_op op_sub (pe_callB call_len_seq (by rfl) T.len PySem.boot_len (pa_cons (pv 0) pa_nil)) pe_int) (pv 1)))
      (pss_one (ps_ret (pe_and (pe_ix ix_list (pv 0) (pv 1) (fun _ _ => rfl)) (pe_one (pe_not (pe_callB (cr_any rfl) (by rfl) T.any PyProof.Rows.boot_any (pa_cons (pe_lc (own := [("bit", 3)]) (g := gName 3) (tt := tYes) rfl scIF.nd (pi_list (pe_g GB hr (pa_cons (pv 2) pa_nil))) (blkOk_by (by show blkC ["can_stand", "mask", "others", "bit"] (defScope sIsFull) _ [("bit", 3)] = true; decide +kernel))
        (fun s H C cl fp => by exact pg_name (i := 3) scIF.nd rfl (Or.inl rfl))
        (fun s H C cl fp => by exact pts_nil)
        (fun s H C cl fp => by exact pe_ix (ixK (K := K)) (pv 0) (pe_op op_or (pv 1) (pv 3)) (fun _ _ => rfl))) pa_nil))))))), ?_⟩
    have hl := fitsL_length c pages
    have h2n := pow_le256 h8
    have ho := others_lt hm
    have ho16 := Nat.lt_of_lt_of_le ho (pow_le16 h8)
    refine ⟨_, rfl, a, _, rfl, .inl ha, _, _, rfl, rfl, _, rfl, _, _, rfl, rfl, ?_⟩
    dsimp only
    rw [List.length_map, hl, all_nat, bxor_nat]
    refine ⟨_, rfl, _, rfl, a, _, _, _, rfl, rfl, ha, atI_bl (fitsL_get hm), _, rfl, ?_⟩
    have hf := fullest_one (case_ := c) (pages := pages) h8 hm
    refine ite2 (fun h1 => ?_) (fun h1 => ?_)
    · refine ⟨_, rfl, _, rfl, ho16, fun H1 r s1 n1 e1 => ?_⟩
      refine ⟨r, rfl, ⟨_, .of e1⟩, fun D hD => ?_⟩
      refine lc_listP (K := K) (a := r) (ea := fun (n : Nat) => V.int n) (as := bitsL ((2 ^ pages.length - 1) ^^^ m)) (fun b => V.bl (Sx07.fits c pages (m ||| b))) hD (.of e1) (Nat.le_trans (bitsL_length _) (by decide)) ?_ ?_
      · intro x H4 R hx s4 k4
        refine k4 _ rfl fun Q q => ⟨_, rfl, _, rfl, _, rfl, _, _, rfl, rfl, ?_⟩
        dsimp only
        rw [bor_nat]
        refine ⟨a, _, _, _, rfl, rfl, (s1.trans s4).seq ha, atI_bl (fitsL_get ?_), q⟩
        obtain ⟨i, hi, rfl⟩ := (mem_bitsL ho16).mp hx
        exact Nat.or_lt_two_pow hm (Nat.pow_lt_pow_right (by decide) (bit_lt ho hi))
      · intro H5 s5 h5
        refine ⟨D, (bitsL ((2 ^ pages.length - 1) ^^^ m)).map (fun b => Sx07.fits c pages (m ||| b)), rfl, .of (by rw [h5, List.map_map]; rfl), _, rfl, ?_⟩
        rw [← hf, h1, Bool.true_and] at k
        exact k H5 (s1.trans s5)
    · have h1' : Sx07.fits c pages m = false := by rw [← Bool.not_eq_true]; exact h1
      rw [h1', Bool.false_and] at k
      exact k H (same_refl _)
def spFull (K : PySem.W.Frag) : Sp := fun vs H Q _ => ∃ (a : Addr) (c : List Nat) (pages : List (List Nat)), vs = [.ref a] ∧ SqL K H a (vB (fitsL c pages)) ∧ pages.length ≤ 8 ∧ NewL H (vN (Sx07.fullest c pages)) Q
theorem scFu : FnScope ["can_stand", "mask"] ["can_stand"] (defScope sFull) := ⟨rfl, rfl, rfl, by decide +kernel, rfl, by decide +kernel, by decide +kernel⟩
theorem ok_full (F : Fun K "fullest_masks" "fullest_masks" sFull f fd) (T : Txt K mg C) (GI : Glob P w K mg base "is_fullest" 2 fI fdI ["can_stand", "mask"] (spIsFull K)) : FnOk P w K mg base CX0 3 f fd ["can_stand"] (spFull K) := by
  refine F.ok scFu (fun vs H Q E h => ?_) (fun cdv A outer s H vs Q E hr h => ?_)
  · obtain ⟨a, c, pages, rfl, _⟩ := h
    rfl
  · obtain ⟨a, c, pages, rfl, ha, h8, k⟩ := h
    refine ⟨_, pss_one (ps_ret (pe_lc (own := [("mask", 1)]) (g := gName 1) rfl scFu.nd (pi_range1 (by rfl) T.range (pa_cons (pe_callB call_len_seq (by rfl) T.len PySem.boot_len (pa_cons (pv 0) pa_nil)) pa_nil)) (blkOk_by (by show blkC ["can_stand", "mask"] (defScope sFull) _ [("mask", 1)] = true; decide +kernel))
        (fun s H C cl fp => by exact pg_name (i := 1) scFu.nd rfl (Or.inl rfl))
        (fun s H C cl fp => by exact pts_one (pt_val (pe_g GI hr (pa_cons (pv 0) (pa_cons (pv 1) pa_nil)))))
        (fun s H C cl fp => by exact pv 1))), ?_⟩
    have hl := fitsL_length c pages
    have h2n := pow_le256 h8
    refine ⟨_, rfl, a, _, rfl, .inl ha, _, rfl, ?_, ?_, fun D hD => ?_⟩
    · rw [List.length_map, hl]; omega
    · rw [List.length_map, hl]; omega
    rw [List.length_map, hl, Int.toNat_natCast]
    refine lc_rangeF (n := 2 ^ pages.length) (fun m => Sx07.fits c pages m && (List.range pages.length).all fun i => m.testBit i || !Sx07.fits c pages (m + 2 ^ i)) (fun m => V.int (m : Nat)) hD (Nat.le_trans h2n (by decide)) ?_ ?_
    · intro x H4 R hx s4 k4
      refine k4 _ rfl (fun Q q => ?_) (fun _ H' Q _ q => ⟨_, rfl, q _ (same_refl _)⟩)
      exact ⟨_, rfl, _, rfl, a, x, c, pages, rfl, s4.seq ha, h8, hx, fun H' s' => ⟨_, rfl, q H' s'⟩⟩
    · intro H5 s5 h5
      exact k H5 D s5 hD h5
theorem foldl_dbl_length : ∀ (bs l : List Nat), (bs.foldl dbl l).length = l.length * 2 ^ bs.length
  | [], l => by simp
  | b :: bs, l => by
    rw [List.foldl_cons, foldl_dbl_length bs, dbl, List.length_append, List.length_map, List.length_cons, Nat.pow_succ, ← Nat.mul_two, Nat.mul_assoc, Nat.mul_comm 2]
def spNext : Sp := fun vs H Q _ => ∃ m : Nat, vs = [.int m] ∧ m ≠ 0 ∧ m < 2 ^ 8 ∧ NewL H (vN (nparts m)) Q
theorem scNx : FnScope ["rest", "bits", "parts", "bit", "part"] ["rest"] (defScope sNext) := ⟨rfl, rfl, rfl, by decide +kernel, rfl, by decide +kernel, by decide +kernel⟩
theorem ok_next (F : Fun K "next_parts" "next_parts" sNext f fd) (T : Txt K mg C) (GB : Glob P w K mg base "bits_of" 1 fB fdB ["mask"] spBits) : FnOk P w K mg base CX0 2 f fd ["rest"] spNext := by
  refine F.ok scNx (fun vs H Q E h => ?_) (fun cdv A outer s H vs Q E hr h => ?_)
  · obtain ⟨m, rfl, _⟩ := h
    rfl
  · obtain ⟨m, rfl, hm0, hm, k⟩ := h
    refine ⟨_, pss_cons (ps_set (i := 1) scNx.nd rfl (Or.inl rfl) (pe_g GB hr (pa_cons (pv 0) pa_nil)))
      (pss_cons (ps_set (i := 2) scNx.nd rfl (Or.inl rfl) (pe_lst (pa_cons (pe_ix ix_list (pv 1) pe_int (fun _ _ => rfl)) pa_nil)))
      (pss_cons (ps_for PassesOwn.never rfl (pi_list (pe_slice sl_list (pv 1) (po_some pe_int) po_none)) (pg_name (i := 3) scNx.nd rfl (Or.inr rfl))
        (pss_one (ps_set (i := 2) scNx.nd rfl (Or.inl rfl) (pe_op op_cat (pv 2) (pe_lc (own := [("part", 4)]) (g := gName 4) (tt := tYes) rfl scNx.nd (pi_list (pv 2)) (blkOk_by (by show blkC ["rest", "bits", "parts", "bit", "part"] (defScope sNext) _ [("part", 4)] = true; decide +kernel))
          (fun s H C cl fp => by exact pg_name (i := 4) scNx.nd rfl (Or.inl rfl))
          (fun s H C cl fp => by exact pts_nil)
          (fun s H C cl fp => by exact pe_op op_or (pv 4) (pv 3)))))))
      (pss_one (ps_ret (pv 2))))), ?_⟩
    have hm16 : m < 2 ^ 16 := Nat.lt_of_lt_of_le hm (by decide)
    obtain ⟨is, eb, _, hi1, _⟩ := bitsL_cons hm0 hm16
    have hdl : ((bitsL m).drop 1).length ≤ 7 := by
      have h1 : (bitsL m).length ≤ 8 := by
        rw [bitsL_eq hm (by decide), List.length_map]
        exact Nat.le_trans (List.length_filter_le _ _) (by rw [List.length_range]; exact Nat.le_refl _)
      rw [List.length_drop]; omega
    refine ⟨_, rfl, m, rfl, hm16, fun H1 r s1 n1 e1 => ?_⟩
    have h0 : atI (vN (bitsL m)) 0 = some (V.int ((bitsL m).getD 0 0 : Nat)) := by
      show atI (vN (bitsL m)) ((0 : Nat) : Int) = _
      exact atI_nat (by rw [eb]; rfl)
    refine ⟨_, rfl, r, _, _, _, rfl, rfl, .of e1, h0, (by show 1 ≤ sizeLine; decide), fun p1 m1 => ?_⟩
    have s2 : Same H1 (upd H1 p1 (.lst [V.int ((bitsL m).getD 0 0 : Nat)])) := same_new m1
    refine ⟨_, rfl, _, rfl, r, _, rfl, .of (s2 _ _ e1), fun q1 l1 => ?_⟩
    have ecut : cutV (vN (bitsL m)) (some 1) none = vN ((bitsL m).drop 1) := by
      unfold cutV
      rw [show (1 : Int) = ((1 : Nat) : Int) from rfl, HT.sIx_nat, HT.sIx_none, List.length_map, ← List.map_drop, ← List.map_take]
      have h1 : 1 ≤ (bitsL m).length := by rw [eb, List.length_cons]; omega
      rw [Nat.min_eq_left h1, List.take_of_length_le (by rw [List.length_drop]; omega)]
    rw [ecut]
    have s3 : Same (upd H1 p1 (.lst [V.int ((bitsL m).getD 0 0 : Nat)])) (upd (upd H1 p1 (.lst [V.int ((bitsL m).getD 0 0 : Nat)])) q1 (.lst (vN ((bitsL m).drop 1)))) := same_new l1
    have hq1 : (upd (upd H1 p1 (.lst [V.int ((bitsL m).getD 0 0 : Nat)])) q1 (.lst (vN ((bitsL m).drop 1)))) q1 = some (.lst (vN ((bitsL m).drop 1))) := upd_same
    have hp1 := s3 p1 _ upd_same
    generalize upd (upd H1 p1 (.lst [V.int ((bitsL m).getD 0 0 : Nat)])) q1 (.lst (vN ((bitsL m).drop 1))) = Hq at s3 hq1 hp1
    have sq : Same H Hq := (s1.trans s2).trans s3
    refine ⟨q1, rfl, ⟨_, .of hq1⟩, for_list (K := K) (a := q1) (xs := vN ((bitsL m).drop 1)) (fun i σ H' => ∃ (ap : Addr) (v3 : Option V), σ = [some (.int m), some (.ref r), some (.ref ap), v3, none] ∧ Same Hq H' ∧ H ap = none ∧
        H' ap = some (.lst (vN ((((bitsL m).drop 1).take i).foldl dbl [(bitsL m).getD 0 0])))) ⟨p1, none, rfl, same_refl _, s1.free m1, hp1⟩ (fun i σ H' _ ⟨_, _, _, s4, _⟩ => s4.seq (.of hq1)) ?_ ?_⟩
    · rintro i x σ H' hi ⟨ap, v3, rfl, s4, fa, hA⟩
      obtain ⟨b, hb, rfl⟩ := getElem?_map_some hi
      have hil : i < ((bitsL m).drop 1).length := (List.getElem?_eq_some_iff.mp hb).1
      have hlen : ((((bitsL m).drop 1).take i).foldl dbl [(bitsL m).getD 0 0]).length = 2 ^ i := by
        rw [foldl_dbl_length, List.length_take, Nat.min_eq_left (by omega)]
        exact Nat.one_mul _
      have h2i : 2 ^ i ≤ 256 := pow_le256 (by omega)
      refine ⟨_, rfl, _, rfl, ap, rfl, ⟨_, .of hA⟩, fun D hD => ?_⟩
      refine lc_listP (K := K) (a := ap) (ea := fun (n : Nat) => V.int n) (as := (((bitsL m).drop 1).take i).foldl dbl [(bitsL m).getD 0 0]) (fun x => V.int ((x ||| b : Nat) : Int)) hD (.of hA) (by rw [hlen]; exact Nat.le_trans h2i (by decide)) ?_ ?_
      · intro x H4 R hx s5 k4
        refine k4 _ rfl fun Q q => ⟨_, rfl, _, rfl, _, _, rfl, rfl, ?_⟩
        dsimp only
        rw [bor_nat]; exact q
      · intro H5 s5 h5
        refine ⟨ap, D, _, _, rfl, rfl, s5 _ _ hA, h5, ?_, fun z nz => ?_⟩
        · rw [List.length_map, List.length_map, hlen]
          exact Nat.le_trans (Nat.add_le_add h2i h2i) (by decide)
        · refine ⟨z, _, rfl, (s4.trans s5).trans (same_new nz), sq.free ((s4.trans s5).free nz), ?_⟩
          rw [upd_same, take_snoc' hb, List.foldl_append]
          show some (HO.lst (vN _ ++ _)) = some (HO.lst (vN (dbl _ b)))
          unfold dbl vN
          rw [List.map_append, List.map_map]
          rfl
    · rintro σ H' ⟨ap, v3, rfl, s4, fa, hA⟩
      refine ⟨_, rfl, k H' ap (sq.trans s4) fa ?_⟩
      rw [hA, List.length_map, List.take_length, nparts_eq hm0 hm16]
def spAlone (K : PySem.W.Frag) : Sp := fun vs H Q _ => ∃ (a : Addr) (c : List Nat) (pages : List (List Nat)), vs = [.ref a] ∧ SqL K H a (vB (fitsL c pages)) ∧ pages.length ≤ 8 ∧ ∀ (H' : Hp) (b : Bool), Same H H' → (b = true ↔ ∀ i, i < pages.length → Sx07.fits c pages (2 ^ i) = true) → Q (.bl b) H'
theorem scAl : FnScope ["can_stand", "bit"] ["can_stand"] (defScope sAlone) := ⟨rfl, rfl, rfl, by decide +kernel, rfl, by decide +kernel, by decide +kernel⟩
theorem ok_alone (F : Fun K "each_stands_alone" "each_stands_alone" sAlone f fd) (T : Txt K mg C) (GB : Glob P w K mg base "bits_of" 1 fB fdB ["mask"] spBits) : FnOk P w K mg base CX0 2 f fd ["can_stand"] (spAlone K) := by
  refine F.ok scAl (fun vs H Q E h => ?_) (fun cdv A outer s H vs Q E hr h => ?_)
  · obtain ⟨a, c, pages, rfl, _⟩ := h
    rfl
  · obtain ⟨a, c, pages, rfl, ha, h8, k⟩ := h
    refine ⟨_, pss_one (ps_ret (pe_callB (cr_all rfl) (by rfl) T.all PyProof.Rows.boot_all (pa_cons (pe_lc (own := [("bit", 1)]) (g := gName 1) (tt := tYes) rfl scAl.nd (pi_list (pe_g GB hr (pa_cons (pe_op op_sub (pe_callB call_len_seq (by rfl) T.len PySem.boot_len (pa_cons (pv 0) pa_nil)) pe_int) pa_nil))) (blkOk_by (by show blkC ["can_stand", "bit"] (defScope sAlone) _ [("bit", 1)] = true; decide +kernel))
        (fun s H C cl fp => by exact pg_name (i := 1) scAl.nd rfl (Or.inl rfl))
        (fun s H C cl fp => by exact pts_nil)
        (fun s H C cl fp => by exact pe_ix (ixK (K := K)) (pv 0) (pv 1) (fun _ _ => rfl))) pa_nil))), ?_⟩
    have hl := fitsL_length c pages
    have hall : 2 ^ pages.length - 1 < 2 ^ pages.length := allOf_lt pages
    have h16 : 2 ^ pages.length - 1 < 2 ^ 16 := Nat.lt_of_lt_of_le hall (pow_le16 h8)
    refine ⟨_, rfl, a, _, rfl, .inl ha, _, _, rfl, rfl, ?_⟩
    dsimp only
    rw [List.length_map, hl, all_nat]
    refine ⟨_, rfl, h16, fun H1 r s1 n1 e1 => ?_⟩
    refine ⟨r, rfl, ⟨_, .of e1⟩, fun D hD => ?_⟩
    refine lc_listP (K := K) (a := r) (ea := fun (n : Nat) => V.int n) (as := bitsL (2 ^ pages.length - 1)) (fun b => V.bl (Sx07.fits c pages b)) hD (.of e1) (Nat.le_trans (bitsL_length _) (by decide)) ?_ ?_
    · intro x H4 R hx s4 k4
      refine k4 _ rfl fun Q q => ⟨_, rfl, _, rfl, a, _, _, _, rfl, rfl, (s1.trans s4).seq ha, atI_bl (fitsL_get ?_), q⟩
      obtain ⟨i, hi, rfl⟩ := (mem_bitsL h16).mp hx
      exact Nat.pow_lt_pow_right (by decide) (bit_lt hall hi)
    · intro H5 s5 h5
      exact ⟨D, (bitsL (2 ^ pages.length - 1)).map (fun b => Sx07.fits c pages b), rfl, .of (by rw [h5, List.map_map]; rfl), k H5 _ (s1.trans s5) (alone_iff h8)⟩
end
end TC
end
section
set_option Elab.async false
set_option linter.all false
set_option maxRecDepth 100000
set_option maxHeartbeats 2000000
namespace TC
open PySem PySem.Spec PyProof.Rows L2
theorem atI_vN {l : List Nat} {m : Nat} (h : m < l.length) : atI (vN l) (m : Nat) = some (V.int (l.getD m 0 : Nat)) := atI_nat (by rw [List.getElem?_map, List.getElem?_eq_getElem h, List.getD_eq_getElem?_getD, List.getElem?_eq_getElem h]; rfl)
theorem vN_snoc (l : List Nat) (n : Nat) : vN l ++ [V.int (n : Int)] = vN (l ++ [n]) := by unfold vN; rw [List.map_append]; rfl
theorem getD_snoc {F : List Nat} {v m : Nat} : (F ++ [v]).getD m 0 = if m < F.length then F.getD m 0 else if m = F.length then v else 0 := by
  rw [List.getD_eq_getElem?_getD, List.getD_eq_getElem?_getD]
  split
  · rw [List.getElem?_append_left (by assumption)]
  · rw [List.getElem?_append_right (by omega)]
    split
    · rename_i h; rw [h, Nat.sub_self]; rfl
    · rw [List.getElem?_eq_none (by rw [List.length_singleton]; omega)]; rfl
section
variable {P : Program} {w : World} {K : PySem.W.Frag} {mg : Str → Option Value} {base : Heap} {C f fA fB fW fK fI fN fC fF : Addr} {fd fdA fdB fdW fdK fdI fdN fdC fdF : FuncData}
def spFewest (K : PySem.W.Frag) : Sp := fun vs H Q _ => ∃ (a : Addr) (c : List Nat) (pages : List (List Nat)), vs = [.ref a] ∧ SqL K H a (vB (fitsL c pages)) ∧ pages.length ≤ 8 ∧ (∀ i, i < pages.length → Sx07.fits c pages (2 ^ i) = true) ∧
  ∀ (H' : Hp) (r : Addr) (F : List Nat), Same H H' → H r = none → H' r = some (.lst (vN F)) → F.length = 2 ^ pages.length → (∀ m, m < 2 ^ pages.length → IsFew (Sx07.fits c pages) m (F.getD m 0)) → Q (.ref r) H'
theorem scFe : FnScope ["can_stand", "fewest", "rest", "part"] ["can_stand"] (defScope sFewest) := ⟨rfl, rfl, rfl, by decide +kernel, rfl, by decide +kernel, by decide +kernel⟩
theorem ok_fewest (F : Fun K "fewest_parts_by_mask" "fewest_parts_by_mask" sFewest f fd) (T : Txt K mg C) (GN : Glob P w K mg base "next_parts" 2 fN fdN ["rest"] spNext) : FnOk P w K mg base CX0 3 f fd ["can_stand"] (spFewest K) := by
  refine F.ok scFe (fun vs H Q E h => ?_) (fun cdv A outer s H vs Q E hr h => ?_)
  · obtain ⟨a, c, pages, rfl, _⟩ := h
    rfl
  · obtain ⟨a, c, pages, rfl, ha, h8, hal, k⟩ := h
    refine ⟨_, pss_cons (ps_set (i := 1) scFe.nd rfl (Or.inr rfl) (pe_lst (pa_cons pe_int pa_nil)))
      (pss_cons (ps_for PassesOwn.never rfl (pi_range2 (by rfl) T.range (pa_cons pe_int (pa_cons (pe_callB call_len_seq (by rfl) T.len PySem.boot_len (pa_cons (pv 0) pa_nil)) pa_nil))) (pg_name (i := 2) scFe.nd rfl (Or.inr rfl))
        (pss_one (ps_expr (pe_bm PySem.F.plainAttrs_list PySem.F.slot_list_append PySem.F.type_list_append mt_append (pv 1) (pa_cons (pe_op op_add pe_int (pe_callB (cr_min rfl) (by rfl) T.min PyProof.Rows.boot_min (pa_cons
          (pe_lc (own := [("part", 3)]) (g := gName 3) rfl scFe.nd (pi_list (pe_g GN hr (pa_cons (pv 2) pa_nil))) (blkOk_by (by show blkC ["can_stand", "fewest", "rest", "part"] (defScope sFewest) _ [("part", 3)] = true; decide +kernel))
            (fun s H C cl fp => by exact pg_name (i := 3) scFe.nd rfl (Or.inl rfl))
            (fun s H C cl fp => by exact pts_one (pt_val (pe_ix (ixK (K := K)) (pv 0) (pv 3) (fun _ _ => rfl))))
            (fun s H C cl fp => by exact pe_ix (ixK (K := K)) (pv 1) (pe_op op_xor (pv 2) (pv 3)) (fun _ _ => rfl))) pa_nil))) pa_nil)))))
      (pss_one (ps_ret (pv 1)))), ?_⟩
    have hl := fitsL_length c pages
    have h2n := pow_le256 h8
    have h2p : 0 < 2 ^ pages.length := Nat.two_pow_pos _
    refine ⟨(by show 1 ≤ sizeLine; decide), fun r n0 => ?_⟩
    have s0 : Same H (upd H r (.lst [V.int 0])) := same_new n0
    refine ⟨_, rfl, a, _, rfl, .inl (s0.seq ha), _, _, rfl, ?_, ?_⟩
    · rw [List.length_map, hl]; omega
    rw [List.length_map, hl, show (((2 ^ pages.length : Nat) : Int) - 1).toNat = 2 ^ pages.length - 1 by omega]
    refine for_range (n := 2 ^ pages.length - 1) (fun i σ H' => ∃ (v2 : Option V) (F : List Nat), σ = [some (.ref a), some (.ref r), v2, none] ∧ Same H H' ∧ H' r = some (.lst (vN F)) ∧ F.length = i + 1 ∧ ∀ m, m ≤ i → IsFew (Sx07.fits c pages) m (F.getD m 0)) ⟨none, [0], rfl, s0, upd_same, rfl, fun m hm => ?_⟩ ?_ ?_
    · have : m = 0 := by omega
      subst this
      exact few_zero _
    · rintro i σ H' hi ⟨v2, F, rfl, s1, hF, hFl, hfew⟩
      have e1i : (1 : Int) + (i : Int) = ((i + 1 : Nat) : Int) := by omega
      rw [e1i]
      have hm0 : i + 1 ≠ 0 := by omega
      have hmn : i + 1 < 2 ^ pages.length := by omega
      have hm8 : i + 1 < 2 ^ 8 := Nat.lt_of_lt_of_le hmn (Nat.pow_le_pow_right (by decide) h8)
      have hm16 : i + 1 < 2 ^ 16 := Nat.lt_of_lt_of_le hmn (pow_le16 h8)
      generalize hm : i + 1 = m at *
      refine ⟨_, rfl, .inl ⟨rfl, _, .of hF⟩, _, rfl, m, rfl, hm0, hm8, fun H2 q s2 n2 e2 => ?_⟩
      refine ⟨q, rfl, ⟨_, .of e2⟩, fun D hD => ?_⟩
      have hpx : ∀ x ∈ nparts m, x < 2 ^ pages.length ∧ m ^^^ x < F.length := fun x hx => by
        have := nparts_lt hx
        omega
      refine lc_listF (K := K) (a := q) (ea := fun (n : Nat) => V.int n) (as := nparts m) (fun x => Sx07.fits c pages x) (fun x => V.int (F.getD (m ^^^ x) 0 : Nat)) hD (.of e2) (Nat.le_trans (nparts_length hmn) (Nat.le_trans h2n (by decide))) ?_ ?_
      · intro x H4 R hx s4 k4
        refine k4 _ rfl (fun Q q => ?_) (fun _ H' Q s5 q => ?_)
        · exact ⟨_, rfl, _, rfl, a, _, _, _, rfl, rfl, ((s1.trans s2).trans s4).seq ha, atI_bl (fitsL_get (hpx x hx).1), _, rfl, q _ (same_refl _)⟩
        · refine ⟨_, rfl, _, rfl, _, rfl, _, _, rfl, rfl, ?_⟩
          dsimp only
          rw [bxor_nat]
          exact ⟨r, _, _, _, rfl, rfl, .of (s5 _ _ (s4 _ _ (s2 _ _ hF))), atI_vN (hpx x hx).2, q _ (same_refl _)⟩
      · intro H5 s5 h5
        have hmem : ∀ v : Int, v ∈ ((nparts m).filter (fun x => Sx07.fits c pages x)).map (fun x => ((F.getD (m ^^^ x) 0 : Nat) : Int)) ↔ ∃ b ∈ nparts m, Sx07.fits c pages b = true ∧ v = ((F.getD (m ^^^ b) 0 : Nat) : Int) := fun v => by
          rw [List.mem_map]
          constructor
          · rintro ⟨b, hb, rfl⟩
            exact ⟨b, (List.mem_filter.mp hb).1, (List.mem_filter.mp hb).2, rfl⟩
          · rintro ⟨b, hb, hb2, rfl⟩
            exact ⟨b, List.mem_filter.mpr ⟨hb, hb2⟩, rfl⟩
        have hlow := lowest_spec hm0 hm16
        have hone : 2 ^ Sx07.lowest m ∈ nparts m := mem_nparts.mpr ⟨within_two_pow hlow.1, by rw [Nat.testBit_two_pow]; simp⟩
        have hfone : Sx07.fits c pages (2 ^ Sx07.lowest m) = true := hal _ (bit_lt hmn hlow.1)
        refine ⟨D, ((nparts m).filter (fun x => Sx07.fits c pages x)).map (fun x => ((F.getD (m ^^^ x) 0 : Nat) : Int)), rfl, .of (by rw [h5, List.map_map]; rfl), List.length_pos_of_mem ((hmem _).mpr ⟨_, hone, hfone, rfl⟩), fun v hv hle => ?_⟩
        obtain ⟨b, hb, hfb, ev⟩ := (hmem v).mp hv
        refine ⟨_, _, rfl, rfl, r, _, _, rfl, rfl, s5 _ _ (s2 _ _ hF), ?_, ?_⟩
        · rw [List.length_map, hFl]; exact Nat.lt_of_lt_of_le (show m < 1000 by omega) line1000
        · refine ⟨_, F ++ [1 + F.getD (m ^^^ b) 0], rfl, same_put (s1.trans (s2.trans s5)) n0, ?_, ?_, fun z hz => ?_⟩
          · have e : (1 : Int) + v = ((1 + F.getD (m ^^^ b) 0 : Nat) : Int) := by rw [ev]; omega
            rw [upd_same]; dsimp only; rw [e, vN_snoc]
          · rw [List.length_append, hFl, List.length_singleton]
          · rw [getD_snoc]
            by_cases hzF : z < F.length
            · rw [if_pos hzF]; exact hfew z (by omega)
            · have ez : z = m := by omega
              rw [if_neg hzF, if_pos (by omega), ez]
              refine few_step (F := fun y => F.getD y 0) hm0 (fun d hd => hfew _ ?_) ⟨b, hb, hfb, rfl⟩ fun d hd hfd => ?_
              · have := nparts_lt hd; omega
              · have := hle _ ((hmem _).mpr ⟨d, hd, hfd, rfl⟩)
                rw [ev] at this; omega
    · rintro σ H' ⟨v2, F, rfl, s1, hF, hFl, hfew⟩
      exact ⟨_, rfl, k H' r F s1 n0 hF (by omega) fun m hm => hfew m (by omega)⟩
def spFirst (K : PySem.W.Frag) : Sp := fun vs H Q _ => ∃ (a : Addr) (c : List Nat) (pages : List (List Nat)), vs = [.ref a] ∧ SqL K H a (vB (fitsL c pages)) ∧ pages.length ≤ 8 ∧ (∀ i, i < pages.length → Sx07.fits c pages (2 ^ i) = true) ∧
  ∀ (H' : Hp) (r : Addr) (x : List Nat), Same H H' → H r = none → H' r = some (.lst (vN x)) → FR (Sx07.fits c pages) (2 ^ pages.length - 1) x → x.length ≤ 8 → Q (.ref r) H'
theorem Parted.few {m : Nat} {x : List Nat} (h : Parted m x) : ∀ {n : Nat}, n ≤ 16 → m < 2 ^ n → x.length ≤ pcnt m := by
  induction h with
  | nil => intro n _ _; exact Nat.zero_le _
  | @cons m b r h0 hw hl hr ih =>
    intro n hn hm
    have hm16 : m < 2 ^ 16 := Nat.lt_of_lt_of_le hm (Nat.pow_le_pow_right (by decide) hn)
    have h1 := pcnt_sub h0 hm16 hw hl
    have h2 := ih hn (Nat.lt_of_le_of_lt (Nat.sub_le _ _) hm)
    rw [List.length_cons]; omega
theorem scFi : FnScope ["can_stand", "fewest", "row", "rest", "parts", "part"] ["can_stand"] (defScope sFirst) := ⟨rfl, rfl, rfl, by decide +kernel, rfl, by decide +kernel, by decide +kernel⟩
theorem ok_first (F : Fun K "first_fewest_row" "first_fewest_row" sFirst f fd) (T : Txt K mg C) (GN : Glob P w K mg base "next_parts" 2 fN fdN ["rest"] spNext) (GF : Glob P w K mg base "fewest_parts_by_mask" 3 fF fdF ["can_stand"] (spFewest K)) : FnOk P w K mg base CX0 4 f fd ["can_stand"] (spFirst K) := by
  refine F.ok scFi (fun vs H Q E h => ?_) (fun cdv A outer s H vs Q E hr h => ?_)
  · obtain ⟨a, c, pages, rfl, _⟩ := h
    rfl
  · obtain ⟨a, c, pages, rfl, ha, h8, hal, k⟩ := h
    have hr2 : Room 2 _ := hr.mono (by decide)
    refine ⟨_, pss_cons (ps_set (i := 1) scFi.nd rfl (Or.inr rfl) (pe_g GF hr (pa_cons (pv 0) pa_nil)))
      (pss_cons (ps_set (i := 2) scFi.nd rfl (Or.inl rfl) (pe_lst pa_nil))
      (pss_cons (ps_set (i := 3) scFi.nd rfl (Or.inr rfl) (pe_op op_sub (pe_callB call_len_seq (by rfl) T.len PySem.boot_len (pa_cons (pv 0) pa_nil)) pe_int))
      (pss_cons (ps_while PassesOwn.never (pt_cmpR op_ne (pv 3) pe_int (nomark _))
        (pss_cons (ps_setLc (i := 4) (own := [("part", 5)]) (g := gName 5) rfl scFi.nd rfl rfl (sw_true rfl rfl (by decide) (by decide +kernel)) (pi_list (pe_g GN hr2 (pa_cons (pv 3) pa_nil))) (blkOk_by (by show blkC ["can_stand", "fewest", "row", "rest", "parts", "part"] (defScope sFirst) _ [("part", 5)] = true; decide +kernel))
            (fun s H C cl fp => by exact pg_name (i := 5) scFi.nd rfl (Or.inl rfl))
            (fun s H C cl fp => by exact pts_one (pw_and (pt_val (pe_ix (ixK (K := K)) (pv 0) (pv 5) (fun _ _ => rfl))) (pw_and1 (pt_cmpR op_lt (pe_ix (ixK (K := K)) (pv 1) (pe_op op_xor (pv 3) (pv 5)) (fun _ _ => rfl)) (pe_ix (ixK (K := K)) (pv 1) (pv 3) (fun _ _ => rfl)) (nomark _)))).pt)
            (fun s H C cl fp => by exact pv 5))
        (pss_cons (ps_expr (pe_bm PySem.F.plainAttrs_list PySem.F.slot_list_append PySem.F.type_list_append mt_append (pv 2) (pa_cons (pe_ix ix_list (pv 4) pe_int (fun _ _ => rfl)) pa_nil)))
        (pss_one (ps_set (i := 3) scFi.nd rfl (Or.inr rfl) (pe_op op_xor (pv 3) (pe_ix ix_list (pv 4) pe_int (fun _ _ => rfl)))))))) 
      (pss_one (ps_ret (pv 2)))))), ?_⟩
    have hl := fitsL_length c pages
    have h2n := pow_le256 h8
    have h2p : 0 < 2 ^ pages.length := Nat.two_pow_pos _
    refine ⟨_, rfl, a, c, pages, rfl, ha, h8, hal, fun H1 rf F s1 n1 e1 hFl hfew => ?_⟩
    refine ⟨Nat.zero_le _, fun r n2 => ?_⟩
    have s2 : Same H1 (upd H1 r (.lst [])) := same_new n2
    have rfr : rf ≠ r := ne_of_none e1 n2
    have nr : H r = none := s1.free n2
    refine ⟨_, rfl, a, _, rfl, .inl ((s1.trans s2).seq ha), _, _, rfl, rfl, ?_⟩
    dsimp only
    rw [List.length_map, hl, all_nat]
    refine ⟨fun n σ H' => ∃ (rest : Nat) (row : List Nat) (v4 : Option V), n = rest ∧ rest < 2 ^ pages.length ∧ σ = [some (.ref a), some (.ref rf), some (.ref r), some (.int rest), v4, none] ∧ Same H H' ∧ H' rf = some (.lst (vN F)) ∧ H' r = some (.lst (vN row)) ∧ row.length + rest < 2 ^ pages.length ∧
        ∀ x, FR (Sx07.fits c pages) rest x → FR (Sx07.fits c pages) (2 ^ pages.length - 1) (row ++ x), ⟨_, 2 ^ pages.length - 1, [], none, rfl, by omega, rfl, s1.trans s2, s2 _ _ e1, upd_same, (by show 0 + _ < _; omega), fun x hx => hx⟩, ?_⟩
    rintro n σ H' ⟨rest, row, v4, rfl, hrn, rfl, s3, hf, hrw, hlen, hFR⟩
    refine ⟨_, rfl, rfl, _, rfl, ?_⟩
    refine ite2 (fun h0 => ?_) (fun h0 => ?_)
    · have hm0 : n ≠ 0 := fun z => by subst z; exact absurd h0 (by decide)
      have hm8 : n < 2 ^ 8 := Nat.lt_of_lt_of_le hrn (Nat.pow_le_pow_right (by decide) h8)
      refine ⟨fun σ' H' => ∃ (rest : Nat) (row : List Nat) (v4 : Option V), rest < n ∧ rest < 2 ^ pages.length ∧ σ' = [some (.ref a), some (.ref rf), some (.ref r), some (.int rest), v4, none] ∧ Same H H' ∧ H' rf = some (.lst (vN F)) ∧ H' r = some (.lst (vN row)) ∧ row.length + rest < 2 ^ pages.length ∧
          ∀ x, FR (Sx07.fits c pages) rest x → FR (Sx07.fits c pages) (2 ^ pages.length - 1) (row ++ x), fun σ' H' ⟨rest, row, v4, q1, q2⟩ => ⟨rest, q1, rest, row, v4, rfl, q2⟩, ?_⟩
      refine ⟨_, rfl, n, rfl, hm0, hm8, fun H2 q s4 n4 e4 => ?_⟩
      refine ⟨q, rfl, ⟨_, .of e4⟩, fun D hD => ?_⟩
      have hpx : ∀ x ∈ nparts n, x < 2 ^ pages.length ∧ n ^^^ x < F.length := fun x hx => by
        have := nparts_lt hx
        omega
      refine lc_listF (K := K) (a := q) (ea := fun (n : Nat) => V.int n) (as := nparts n) (fun x => Sx07.fits c pages x && decide (F.getD (n ^^^ x) 0 < F.getD n 0)) (fun x => V.int (x : Nat)) hD (.of e4) (Nat.le_trans (nparts_length hrn) (Nat.le_trans h2n (by decide))) ?_ ?_
      · intro x H4 R hx s5 k4
        refine k4 _ rfl (fun Q q => ?_) (fun _ H' Q s6 q => ⟨_, rfl, q _ (same_refl _)⟩)
        refine ⟨_, rfl, _, rfl, a, _, _, _, rfl, rfl, ((s3.trans s4).trans s5).seq ha, atI_bl (fitsL_get (hpx x hx).1), _, rfl, ?_⟩
        have q' := q H4 (same_refl _)
        refine ite2 (fun h1 => ?_) (fun h1 => ?_)
        · refine ⟨_, rfl, _, rfl, _, rfl, _, _, rfl, rfl, ?_⟩
          dsimp only
          rw [bxor_nat]
          refine ⟨rf, _, _, _, rfl, rfl, .of (s5 _ _ (s4 _ _ hf)), atI_vN (hpx x hx).2, _, rfl, _, rfl, rf, _, _, _, rfl, rfl, .of (s5 _ _ (s4 _ _ hf)), atI_vN (by omega), _, _, rfl, rfl, _, rfl, ?_⟩
          rw [h1, Bool.true_and] at q'
          have e : decide ((F.getD (n ^^^ x) 0 : Int) < (F.getD n 0 : Int)) = decide (F.getD (n ^^^ x) 0 < F.getD n 0) := decide_eq_decide.mpr (by omega)
          rw [e]; exact q'
        · have h1' : Sx07.fits c pages x = false := by rw [← Bool.not_eq_true]; exact h1
          rw [h1', Bool.false_and] at q'
          exact q'
      · intro H5 s5 h5
        have hFx : ∀ d ∈ nparts n, IsFew (Sx07.fits c pages) (n ^^^ d) (F.getD (n ^^^ d) 0) := fun d hd => hfew _ (by have := nparts_lt hd; omega)
        obtain ⟨b0, hb0, hfb0, hlt0⟩ := FR_next (F := fun y => F.getD y 0) hm0 (hfew n hrn) hFx
        obtain ⟨b, hb, hbn, hbp, hble⟩ := filter_head (p := fun x => Sx07.fits c pages x && decide (F.getD (n ^^^ x) 0 < F.getD n 0)) (nparts_sorted n) ⟨b0, hb0, by rw [hfb0, decide_eq_true hlt0]; rfl⟩
        rw [Bool.and_eq_true, decide_eq_true_eq] at hbp
        have hD0 : atI (((nparts n).filter (fun x => Sx07.fits c pages x && decide (F.getD (n ^^^ x) 0 < F.getD n 0))).map fun x => V.int (x : Nat)) 0 = some (V.int (b : Nat)) := by
          show atI _ ((0 : Nat) : Int) = _
          exact atI_nat (by rw [List.getElem?_map, hb]; rfl)
        have hr5 := s5 _ _ (s4 _ _ hrw)
        have Dr : D ≠ r := fun z => by subst z; rw [s4 _ _ hrw] at hD; cases hD
        have hlt := nparts_lt hbn
        refine ⟨_, rfl, .inl ⟨rfl, _, .of hr5⟩, _, rfl, D, _, _, _, rfl, rfl, .of h5, hD0, r, _, _, rfl, rfl, hr5, ?_, ?_⟩
        · rw [List.length_map]; exact Nat.lt_of_lt_of_le (show row.length < 1000 by omega) line1000
        · refine ⟨_, rfl, _, rfl, D, _, _, _, rfl, rfl, .of (by rw [upd_ne Dr]; exact h5), hD0, _, _, rfl, rfl, ?_⟩
          dsimp only
          rw [bxor_nat]
          refine ⟨n ^^^ b, row ++ [b], _, hlt.1, by omega, rfl, same_put (s3.trans (s4.trans s5)) nr, ?_, ?_, ?_, fun x hx => ?_⟩
          · rw [upd_ne rfr]; exact s5 _ _ (s4 _ _ hf)
          · rw [upd_same, vN_snoc]
          · rw [List.length_append, List.length_singleton]; omega
          · rw [List.append_assoc]
            refine hFR _ (FR_step (F := fun y => F.getD y 0) hm0 (hfew n hrn) hFx hbn hbp.1 hbp.2 (fun d hd hfd hltd => hble d hd ?_) hx)
            rw [hfd, decide_eq_true hltd]; rfl
    · have hm0 : n = 0 := by
        rw [Bool.not_eq_true', Bool.not_eq_false, decide_eq_true_eq] at h0
        injection h0 with h0
        omega
      subst hm0
      have hx := hFR [] (FR_zero _)
      rw [List.append_nil] at hx
      exact ⟨_, rfl, k H' r row s3 nr hrw hx (Nat.le_trans (hx.mem.1.few (n := pages.length) (by omega) (allOf_lt pages)) (Nat.le_trans (pcnt_le (allOf_lt pages)) h8))⟩
end
end TC
end
section
set_option Elab.async false
set_option linter.all false
set_option maxRecDepth 100000
set_option maxHeartbeats 2000000
namespace TC
open PySem PySem.Spec PyProof.Rows L2
def FoundAt (H : Hp) (v : V) : Option Found → Prop
  | none => v = .non
  | some p => ∃ b ae ar, v = .ref b ∧ H b = some (.tup [.int p.1, .ref ae, .ref ar]) ∧ H ae = some (.lst (vN p.2.1)) ∧ H ar = some (.lst (vN p.2.2))
theorem FoundAt.same {H H' : Hp} (s : Same H H') {v : V} : ∀ {o : Option Found}, FoundAt H v o → FoundAt H' v o
  | none, h => h
  | some p, ⟨b, ae, ar, h1, h2, h3, h4⟩ => ⟨b, ae, ar, h1, s _ _ h2, s _ _ h3, s _ _ h4⟩
theorem iteS {c A B : Prop} [Decidable c] (hc : ¬ c) (h : A) : if (!decide c) = true then A else B := by
  rw [decide_eq_false hc]; exact iteT h
abbrev psCheaper : List Str := ["lacking", "rest", "turns", "each", "row", "best"]
def spCheaper (K : PySem.W.Frag) (d : Nat) : Sp := fun vs H Q _ => ∃ (al : Addr) (ls : List Addr) (n k m t : Nat) (L : Nat → List Nat) (ae ar : Addr) (e row : List Nat) (vb : V) (best : Option Found), vs = [.ref al, .int m, .int t, .ref ae, .ref ar, vb] ∧ PagesAt K H al ls ((List.range (2 ^ n)).map L) ∧ (∀ b, (L b).length = k) ∧ k ≤ 32 ∧ n ≤ 8 ∧
  m < 2 ^ n ∧ pcnt m < d ∧ (m ≠ 0 → 1 ≤ t) ∧ H ae = some (.lst (vN e)) ∧ e.length = k ∧ H ar = some (.lst (vN row)) ∧ row.length + m ≤ 256 ∧ FoundAt H vb best ∧ ∀ (H' : Hp) (v : V) (out : Option Found), Same H H' → FoundAt H' v out → Post L (Rest m t) e row best out → Q v H'
section
variable {P : Program} {w : World} {K : PySem.W.Frag} {mg : Str → Option Value} {base : Heap} {C f fA fB fW fK fI fN fC fF fM : Addr} {fd fdA fdB fdW fdK fdI fdN fdC fdF fdM : FuncData}
theorem scCh : FnScope ["lacking", "rest", "turns", "each", "row", "best", "total", "parts", "part"] psCheaper (defScope sCheaper) := ⟨rfl, rfl, rfl, by decide +kernel, rfl, by decide +kernel, by decide +kernel⟩
theorem ok_cheaper (F : Fun K "cheaper_row" "cheaper_row" sCheaper f fd) (T : Txt K mg C) (hmg : mg "cheaper_row" = some (.ref f)) (hbd : Binds K fd psCheaper []) (GN : Glob P w K mg base "next_parts" 2 fN fdN ["rest"] spNext) (GM : Glob P w K mg base "most_of_each" 1 fM fdM ["some", "others"] (spZip K fun x y => max x y)) :
    ∀ d, FnOk P w K mg base CX0 (d + 2) f fd psCheaper (spCheaper K d)
  | 0 => by
    refine F.ok scCh (fun vs H Q E h => ?_) (fun cdv A outer s H vs Q E hr h => ?_)
    · obtain ⟨al, ls, n, k, m, t, L, ae, ar, e, row, vb, best, rfl, _⟩ := h
      rfl
    · obtain ⟨al, ls, n, k, m, t, L, ae, ar, e, row, vb, best, rfl, _, _, _, _, _, hd, _⟩ := h
      exact absurd hd (Nat.not_lt_zero _)
  | d + 1 => by
    have GS : Glob P w K mg base "cheaper_row" (d + 2) f fd psCheaper (spCheaper K d) := ⟨ok_cheaper F T hmg hbd GN GM d, hmg, F.kp, hbd⟩
    refine F.ok scCh (fun vs H Q E h => ?_) (fun cdv A outer s H vs Q E hr h => ?_)
    · obtain ⟨al, ls, n, k, m, t, L, ae, ar, e, row, vb, best, rfl, _⟩ := h
      rfl
    · obtain ⟨al, ls, n, kk, m, t, L, ae, ar, e, row, vb, best, rfl, hP, hL, hk, hn, hm, hd, ht, he, hel, hrow, hrl, hfd, k⟩ := h
      have hr2 : Room 2 _ := hr.mono (by omega)
      have hr1 : Room 1 _ := hr.mono (by omega)
      refine ⟨_, pss_cons (ps_set (i := 6) scCh.nd rfl (Or.inl rfl) (pe_callB (cr_sum rfl) (by rfl) T.sum PyProof.Rows.boot_sum (pa_cons (pv 3) pa_nil)))
        (pss_cons (ps_if (pw_and (pt_cmp (pc_notN (pv 5))) (pw_and1 (pt_cmpR op_ge (pv 6) (pe_ix ix_tup (pv 5) pe_int (fun _ _ => rfl)) (nomark _)))).pt (pss_one (ps_ret (pv 5))) pss_nil)
        (pss_cons (ps_if (pt_cmpR op_eq (pv 1) pe_int (nomark _)) (pss_one (ps_ret (pe_tup (pa_cons (pv 6) (pa_cons (pv 3) (pa_cons (pv 4) pa_nil)))))) pss_nil)
        (pss_cons (ps_set (i := 7) scCh.nd rfl (Or.inl rfl) (pe_ifExp (pt_cmpR op_eq (pv 2) pe_int (nomark _)) (pe_lst (pa_cons (pv 1) pa_nil)) (pe_g GN hr2 (pa_cons (pv 1) pa_nil))))
        (pss_cons (ps_for PassesOwn.never rfl (pi_list (pv 7)) (pg_name (i := 8) scCh.nd rfl (Or.inl rfl))
          (pss_one (ps_set (i := 5) scCh.nd rfl (Or.inl rfl) (pe_g GS hr (pa_cons (pv 0) (pa_cons (pe_op op_xor (pv 1) (pv 8)) (pa_cons (pe_op op_sub (pv 2) pe_int) (pa_cons (pe_g GM hr1 (pa_cons (pv 3) (pa_cons (pe_ix ix_list (pv 0) (pv 8) (fun _ _ => rfl)) pa_nil))) (pa_cons (pe_op op_cat (pv 4) (pe_lst (pa_cons (pv 8) pa_nil))) (pa_cons (pv 5) pa_nil))))))))))
        (pss_one (ps_ret (pv 5))))))), ?_⟩
      refine ⟨_, rfl, ae, iN e, rfl, (by rw [vN_iN]; exact .of he), ?_⟩
      rw [iN, total_sum]
      refine ⟨_, rfl, _, rfl, ?_⟩
      by_cases hstop : ∃ p, best = some p ∧ p.1 ≤ Sx07.total e
      · obtain ⟨p, rfl, hp⟩ := hstop
        obtain ⟨b, be, br, rfl, h1, h2, h3⟩ := id hfd
        refine iteT ⟨_, rfl, _, rfl, b, _, _, _, rfl, rfl, .of h1, (show atI [V.int p.1, V.ref be, V.ref br] 0 = some (V.int p.1) from rfl), _, _, rfl, rfl, _, rfl, ?_⟩
        refine iteP (by omega) ?_
        exact ⟨_, rfl, k H _ _ (same_refl _) hfd (post_stop hL hel hp)⟩
      · have hlt : ltB best (Sx07.total e) := by
          cases best with
          | none => trivial
          | some p => exact Nat.lt_of_not_le fun z => hstop ⟨p, rfl, z⟩
        refine (have tail : (?T : Prop) := ?h; ?g)
        case g =>
          cases best with
          | none =>
            have hv : vb = .non := hfd
            refine iteNS hv (iteF ?_)
            exact tail
          | some p =>
            obtain ⟨b, be, br, hv, h1, h2, h3⟩ := id hfd
            refine iteS (by rw [hv]; intro z; cases z) ?_
            refine ⟨_, rfl, _, rfl, b, _, _, _, hv, rfl, .of h1, (show atI [V.int p.1, V.ref be, V.ref br] 0 = some (V.int p.1) from rfl), _, _, rfl, rfl, _, rfl, ?_⟩
            have hlt' : Sx07.total e < p.1 := hlt
            refine iteN (by omega) ?_
            exact tail
        case h =>
          refine ⟨_, rfl, rfl, _, rfl, ?_⟩
          by_cases hm0 : m = 0
          · subst hm0
            refine iteP rfl ?_
            refine ⟨_, rfl, _, rfl, _, rfl, (by show 3 ≤ sizeLine; decide), fun b hb => ?_⟩
            exact k _ _ (some (Sx07.total e, e, row)) (same_new hb) ⟨b, ae, ar, rfl, upd_same, (same_new hb) _ _ he, (same_new hb) _ _ hrow⟩ (post_done hlt)
          · have ht1 := ht hm0
            have hm16 : m < 2 ^ 16 := Nat.lt_of_lt_of_le hm (pow_le16 hn)
            have hm8 : m < 2 ^ 8 := Nat.lt_of_lt_of_le hm (Nat.pow_le_pow_right (by decide) hn)
            refine iteN (fun z => hm0 (by injection z with z; omega)) ?_
            refine ⟨_, rfl, rfl, _, rfl, ?_⟩
            refine ite2 (fun h1 => ⟨_, rfl, (by show 1 ≤ sizeLine; decide), fun p hp => ?c1⟩) (fun h1 => ⟨_, rfl, m, rfl, hm0, hm8, fun H1 p s1 np hp' => ?c2⟩)
            case' c1 =>
              have s1 : Same H (upd H p (.lst [V.int m])) := same_new hp
              have hp' : (upd H p (.lst [V.int m])) p = some (.lst (vN [m])) := upd_same
              generalize upd H p (.lst [V.int m]) = H1 at s1 hp' ⊢
              have et : t = 1 := by
                have h1 := of_decide_eq_true h1
                injection h1 with h1
                omega
              have hsort : [m].Pairwise (· < ·) := List.pairwise_singleton _ _
              have hmem : ∀ x ∈ [m], x ∈ nparts m := fun x hx => by rw [List.mem_singleton.mp hx]; exact self_nparts hm0 hm16
              have hturn : ∀ x ∈ [m], m ^^^ x ≠ 0 → 1 ≤ t - 1 := fun x hx z => by rw [List.mem_singleton.mp hx, Nat.xor_self] at z; exact absurd rfl z
              have hheads : ∀ x, Heads [m] m (t - 1) x ↔ Rest m t x := by subst et; exact heads_one hm0 hm16
              generalize [m] = ps at hp' hsort hmem hturn hheads
            case' c2 =>
              have et : 2 ≤ t := by
                have : ¬ t = 1 := fun z => h1 (by subst z; rfl)
                omega
              obtain ⟨ps, eps⟩ : ∃ ps, ps = nparts m := ⟨_, rfl⟩
              have hsort : ps.Pairwise (· < ·) := by rw [eps]; exact nparts_sorted m
              have hmem : ∀ x ∈ ps, x ∈ nparts m := fun x hx => by rw [← eps]; exact hx
              have hturn : ∀ x ∈ ps, m ^^^ x ≠ 0 → 1 ≤ t - 1 := fun x hx z => by omega
              have hheads : ∀ x, Heads ps m (t - 1) x ↔ Rest m t x := by rw [eps]; exact heads_many hm0 et
              rw [← eps] at hp'
            all_goals
              refine ⟨_, rfl, p, rfl, ⟨_, .of hp'⟩, for_list (K := K) (a := p) (xs := vN ps) (fun i σ H' => ∃ (vb' : V) (v8 : Option V) (mid : Option Found), σ = [some (.ref al), some (.int m), some (.int t), some (.ref ae), some (.ref ar), some vb', some (.int (Sx07.total e : Nat)), some (.ref p), v8] ∧ Same H1 H' ∧ FoundAt H' vb' mid ∧ Post L (Heads (ps.take i) m (t - 1)) e row best mid)
                ⟨vb, none, best, rfl, same_refl _, hfd.same s1, post_none _ _ _ _ _ _⟩ (fun i σ H' _ ⟨_, _, _, _, s2, _⟩ => s2.seq (.of hp')) ?_ ?_⟩
              · rintro i x σ H' hi ⟨vb', v8, mid, rfl, s2, hfd', hpost⟩
                obtain ⟨b, hb, rfl⟩ := getElem?_map_some hi
                have hbm := hmem b (List.mem_of_getElem? hb)
                obtain ⟨hbw, hbl⟩ := mem_nparts.mp hbm
                have hlt' := nparts_lt hbm
                have hb2 : b < 2 ^ n := by omega
                have hpc := pcnt_sub hm0 hm16 hbw hbl
                rw [(sub_bits hbw).1] at hpc
                have hlb : ((List.range (2 ^ n)).map L)[b]? = some (L b) := by rw [List.getElem?_map, List.getElem?_range hb2]; rfl
                have hbl2 : b < ls.length := by rw [hP.len, List.length_map, List.length_range]; exact hb2
                have hA : ls[b]? = some ls[b] := List.getElem?_eq_getElem hbl2
                generalize ls[b] = lb at hA
                have s3 := s1.trans s2
                refine ⟨_, rfl, _, rfl, _, rfl, _, _, rfl, rfl, _, rfl, _, _, rfl, rfl, _, rfl, _, rfl, _, rfl, al, _, _, _, rfl, rfl, s3.seq hP.lst, atI_nat (v := V.ref lb) (by rw [List.getElem?_map, hA]; rfl), ?_⟩
                refine ⟨ae, lb, e, L b, rfl, .of (s3 _ _ he), s3.seq (hP.at_ b lb _ hA hlb), by omega, fun H3 r3 s4 n3 e3 => ?_⟩
                refine ⟨_, rfl, _, rfl, (by show 1 ≤ sizeLine; decide), fun p4 n4 => ?_⟩
                have s5 : Same H3 (upd H3 p4 (.lst [V.int b])) := same_new n4
                refine ⟨ar, p4, _, _, rfl, rfl, s5 _ _ (s4 _ _ (s3 _ _ hrow)), upd_same, ?_, fun r5 n5 => ?_⟩
                · rw [List.length_map]; exact Nat.le_trans (show row.length + 1 ≤ 1000 by omega) line1000
                have s6 : Same (upd H3 p4 (.lst [V.int b])) (upd (upd H3 p4 (.lst [V.int b])) r5 (.lst (vN row ++ [V.int b]))) := same_new n5
                have s7 := s4.trans (s5.trans s6)
                refine ⟨_, rfl, al, ls, n, kk, m ^^^ b, t - 1, L, r3, r5, List.zipWith (fun (x y : Nat) => max x y) e (L b), row ++ [b], vb', mid, ?_, hP.same (s3.trans s7), hL, hk, hn, by omega, by omega, hturn b (List.mem_of_getElem? hb), s6 _ _ (s5 _ _ e3), ?_, ?_, ?_, hfd'.same s7, fun H8 v8 out s8 hf8 hp8 => ?_⟩
                · rw [← bxor_nat, show ((t - 1 : Nat) : Int) = (t : Int) - 1 by omega]; rfl
                · rw [List.length_zipWith, hel, hL, Nat.min_self]
                · rw [upd_same, vN_snoc]
                · rw [List.length_append, List.length_singleton]; omega
                · refine ⟨v8, _, out, rfl, s2.trans (s7.trans s8), hf8, ?_⟩
                  rw [take_snoc' hb]
                  refine post_step (fun z hz => ?_) hpost hp8
                  have h1 : (ps.take (i + 1)).Pairwise (· < ·) := hsort.sublist (List.take_sublist _ _)
                  rw [take_snoc' hb] at h1
                  exact (List.pairwise_append.mp h1).2.2 z hz b (List.mem_singleton.mpr rfl)
              · rintro σ H' ⟨vb', v8, mid, rfl, s2, hfd', hpost⟩
                rw [List.length_map, List.take_length] at hpost
                exact ⟨_, rfl, k H' vb' mid (s1.trans s2) hfd' (hpost.congr hheads)⟩
def spCheapest (K : PySem.W.Frag) : Sp := fun vs H Q _ => ∃ (ac ap : Addr) (t : Nat) (c : List Nat) (as : List Addr) (pages : List (List Nat)), vs = [.ref ac, .ref ap, .int t] ∧ SqL K H ac (vN c) ∧ PagesAt K H ap as pages ∧ (∀ p ∈ pages, p.length = c.length) ∧ c.length ≤ 32 ∧ pages.length ≤ 8 ∧ (pages.length ≠ 0 → 1 ≤ t) ∧
  ∀ (H' : Hp) (b ae ar : Addr) (x : List Nat), Same H H' → Sx07.bought c pages t = some x → H' b = some (.tup [.int (Sx07.total (Sx07.missing c pages x)), .ref ae, .ref ar]) → H' ae = some (.lst (vN (Sx07.missing c pages x))) → H' ar = some (.lst (vN x)) → Q (.ref b) H'
theorem scCt : FnScope ["case", "pages", "turns", "lacking", "wanted"] ["case", "pages", "turns"] (defScope sCheapest) := ⟨rfl, rfl, rfl, by decide +kernel, rfl, by decide +kernel, by decide +kernel⟩
theorem ok_cheapest (F : Fun K "first_cheapest_row" "first_cheapest_row" sCheapest f fd) (T : Txt K mg C) (GW : Glob P w K mg base "wanted_by_mask" 2 fW fdW ["case", "pages"] (spWantBy K)) (GL : Glob P w K mg base "lacking_of_each" 1 fK fdK ["case", "wanted"] (spZip K fun h w => w - h))
    (GC : Glob P w K mg base "cheaper_row" 11 fC fdC psCheaper (spCheaper K 9)) : FnOk P w K mg base CX0 12 f fd ["case", "pages", "turns"] (spCheapest K) := by
  refine F.ok scCt (fun vs H Q E h => ?_) (fun cdv A outer s H vs Q E hr h => ?_)
  · obtain ⟨ac, ap, t, c, as, pages, rfl, _⟩ := h
    rfl
  · obtain ⟨ac, ap, t, c, as, pages, rfl, hc, hp, hlen, hk, h8, ht, k⟩ := h
    have hr1 : Room 1 _ := hr.mono (by decide)
    have hr2 : Room 2 _ := hr.mono (by decide)
    refine ⟨_, pss_cons (ps_setLc (i := 3) (own := [("wanted", 4)]) (g := gName 4) (tt := tYes) rfl scCt.nd rfl rfl (sw_true rfl rfl (by decide) (by decide +kernel)) (pi_list (pe_g GW hr2 (pa_cons (pv 0) (pa_cons (pv 1) pa_nil)))) (blkOk_by (by show blkC ["case", "pages", "turns", "lacking", "wanted"] (defScope sCheapest) _ [("wanted", 4)] = true; decide +kernel))
        (fun s H C cl fp => by exact pg_name (i := 4) scCt.nd rfl (Or.inl rfl))
        (fun s H C cl fp => by exact pts_nil)
        (fun s H C cl fp => by exact pe_g GL hr1 (pa_cons (pv 0) (pa_cons (pv 4) pa_nil))))
      (pss_one (ps_ret (pe_g GC hr (pa_cons (pv 3) (pa_cons (pe_op op_sub (pe_callB call_len_seq (by rfl) T.len PySem.boot_len (pa_cons (pv 3) pa_nil)) pe_int) (pa_cons (pv 2) (pa_cons (pe_op op_rep (pe_lst (pa_cons pe_int pa_nil)) (pe_callB call_len_seq (by rfl) T.len PySem.boot_len (pa_cons (pv 0) pa_nil))) (pa_cons (pe_lst pa_nil) (pa_cons pe_non pa_nil))))))))), ?_⟩
    refine ⟨_, rfl, _, rfl, ac, ap, c, as, pages, rfl, hc, hp, hlen, hk, h8, fun H1 r ys s1 n1 e1 hP => ?_⟩
    have h2n := pow_le256 h8
    have h2p : 0 < 2 ^ pages.length := Nat.two_pow_pos _
    have hyl : ys.length = (wantL c.length pages).length := hP.len
    have hwl := wantL_length c.length pages
    refine ⟨r, rfl, ⟨_, .of e1⟩, fun D hD => ?_⟩
    refine lc_listA (K := K) (a := r) (ea := fun x : Addr × List Nat => V.ref x.1) (as := ys.zip (wantL c.length pages)) (fun x => Sx07.lacks c x.2) hD (.of (by rw [e1, refs_zip ys (wantL c.length pages) (by omega)])) (by rw [List.length_zip, hyl, hwl, Nat.min_self]; exact Nat.le_trans h2n (by decide)) ?_ ?_
    · intro x H4 R hx s4 k4
      obtain ⟨j, hj⟩ := List.mem_iff_getElem?.mp hx
      obtain ⟨hj1, hj2⟩ := List.getElem?_zip_eq_some.mp hj
      refine k4 _ rfl fun Q q => ⟨_, rfl, _, rfl, ac, x.1, c, x.2, rfl, (s1.trans s4).seq hc, s4.seq (hP.at_ j _ _ hj1 hj2), by omega, fun H5 r5 s5 n5 e5 => q H5 r5 s5 n5 e5⟩
    · intro H5 zs s5 h5 hzl hz
      have s6 := s1.trans s5
      have hzl' : zs.length = 2 ^ pages.length := by rw [hzl, List.length_zip, hyl, hwl, Nat.min_self]
      refine ⟨_, rfl, _, rfl, D, _, rfl, .inl (.of h5), _, _, rfl, rfl, _, rfl, (by show 1 ≤ sizeLine; decide), fun p7 n7 => ?_⟩
      have s7 : Same H5 (upd H5 p7 (.lst [V.int 0])) := same_new n7
      refine ⟨_, rfl, ac, _, rfl, .inl ((s6.trans s7).seq hc), p7, _, _, rfl, rfl, upd_same, ?_, ?_, ?_, fun ae n8 => ?_⟩
      · rw [List.length_map]; omega
      · rw [List.length_map]; omega
      · rw [List.length_map, Int.toNat_natCast]; show 1 * c.length ≤ sizeLine; exact Nat.le_trans (by omega) line1000
      rw [List.length_map, List.length_map, Int.toNat_natCast, zeros_rep]
      have s8 : Same (upd H5 p7 (.lst [V.int 0])) (upd (upd H5 p7 (.lst [V.int 0])) ae (.lst (vN (Sx07.zeros c.length)))) := same_new n8
      have eae : (upd (upd H5 p7 (.lst [V.int 0])) ae (.lst (vN (Sx07.zeros c.length)))) ae = some (.lst (vN (Sx07.zeros c.length))) := upd_same
      generalize upd (upd H5 p7 (.lst [V.int 0])) ae (.lst (vN (Sx07.zeros c.length))) = H8 at s8 eae
      refine ⟨Nat.zero_le _, fun ar n9 => ?_⟩
      have s9 : Same H8 (upd H8 ar (.lst [])) := same_new n9
      have s59 := s7.trans (s8.trans s9)
      refine ⟨D, zs, pages.length, c.length, 2 ^ pages.length - 1, t, fun b => Sx07.lacks c (Sx07.wants c.length pages b), ae, ar, Sx07.zeros c.length, [], .non, none, ?_, ?_, ?_, hk, h8, by omega, ?_, ?_, s9 _ _ eae, ?_, upd_same, ?_, rfl, fun H' v out s' hf' hpost => ?_⟩
      · rw [hzl', ← all_nat]; rfl
      · refine ⟨.of (s59 _ _ h5), by rw [hzl', List.length_map, List.length_range], fun j a p h1 h2 => .of (s59 _ _ ?_)⟩
        rw [List.getElem?_map] at h2
        have hj : j < 2 ^ pages.length := by rw [← hzl']; exact (List.getElem?_eq_some_iff.mp h1).1
        rw [List.getElem?_range hj] at h2
        have h2' : Sx07.lacks c (Sx07.wants c.length pages j) = p := Option.some.inj h2
        have e3 : (wantL c.length pages)[j]? = some (Sx07.wants c.length pages j) := by unfold wantL; rw [List.getElem?_map, List.getElem?_range hj]; rfl
        have hy : ys[j]? = some (ys[j]'(by omega)) := List.getElem?_eq_getElem _
        rw [← h2']
        exact hz j a (ys[j]'(by omega), Sx07.wants c.length pages j) h1 (List.getElem?_zip_eq_some.mpr ⟨hy, e3⟩)
      · intro b
        show (List.zipWith _ c _).length = c.length
        rw [List.length_zipWith, wants_length hlen, Nat.min_self]
      · have := pcnt_le (allOf_lt pages)
        show pcnt (Sx07.allOf pages) < 9
        omega
      · intro z
        refine ht fun z' => z ?_
        rw [z']
      · unfold Sx07.zeros; rw [List.length_replicate]
      · show 0 + _ ≤ 256; omega
      · rcases post_bought h8 hpost with ⟨_, hb⟩ | ⟨x, rfl, hb⟩
        · obtain ⟨z1, z2⟩ := (bought_none_iff h8).mp hb
          exfalso
          have := ht (fun z => z2 (List.eq_nil_of_length_eq_zero z))
          omega
        · obtain ⟨b, be, br, rfl, g1, g2, g3⟩ := hf'
          exact k H' b be br x (s6.trans (s59.trans s')) hb g1 g2 g3
end
end TC
end
section
set_option Elab.async false
set_option linter.all false
set_option maxRecDepth 100000
set_option maxHeartbeats 2000000
namespace TC
open PySem PySem.Spec PyProof.Rows L2
theorem band_not (f s : Nat) : Builtin.bitAnd (f : Int) (Builtin.bitNot (s : Int)) = ((andNot f s : Nat) : Int) := by
  rw [bitAnd_not, bitAnd_pp (Int.natCast_nonneg _) (Int.natCast_nonneg _), Int.toNat_natCast, Int.toNat_natCast]
  have hw : Sx07.within (f &&& s) f = true := within_iff.mpr fun i hi => by
    rw [Nat.testBit_and, Bool.and_eq_true] at hi; exact hi.1
  obtain ⟨h1, h2⟩ := sub_bits hw
  unfold andNot
  rw [← h1]; omega
def PairsAt (H : Hp) (ts : List Addr) (B : Nat → Nat × Nat) : Prop := ∀ (j : Nat) (t : Addr), ts[j]? = some t → H t = some (.tup [.int (B j).1, .int (B j).2])
theorem PairsAt.same {H H' : Hp} {ts : List Addr} {B : Nat → Nat × Nat} (s : Same H H') (h : PairsAt H ts B) : PairsAt H' ts B := fun j t e => s _ _ (h j t e)
section
variable {P : Program} {w : World} {K : PySem.W.Frag} {mg : Str → Option Value} {base : Heap} {C f fA fB fW fK fI fN fC fF fM : Addr} {fd fdA fdB fdW fdK fdI fdN fdC fdF fdM : FuncData}
def spBest (K : PySem.W.Frag) : Sp := fun vs H Q _ => ∃ (a ay : Addr) (c : List Nat) (pages : List (List Nat)) (fm : Nat) (Y : Nat → Nat), vs = [.ref a, .int fm, .ref ay] ∧ SqL K H a (vB (fitsL c pages)) ∧ SqL K H ay (vN ((List.range (2 ^ pages.length)).map Y)) ∧ pages.length ≤ 8 ∧ fm < 2 ^ pages.length ∧ Sx07.fits c pages fm = true ∧
  ∀ (H' : Hp) (r : Addr) (ts : List Addr) (B : Nat → Nat × Nat), Same H H' → H r = none → H' r = some (.lst (ts.map V.ref)) → ts.length = 2 ^ pages.length → PairsAt H' ts B → (∀ s, s < 2 ^ pages.length → BestAt (Sx07.fits c pages) Y fm s (B s)) → Q (.ref r) H'
theorem scBb : FnScope ["can_stand", "forme", "yet", "best", "before", "choices", "stands", "bit"] ["can_stand", "forme", "yet"] (defScope sBestBy) := ⟨rfl, rfl, rfl, by decide +kernel, rfl, by decide +kernel, by decide +kernel⟩
theorem atI_Y {n m : Nat} {Y : Nat → Nat} (h : m < n) : atI (vN ((List.range n).map Y)) (m : Nat) = some (V.int (Y m : Nat)) := atI_nat (by rw [List.getElem?_map, List.getElem?_map, List.getElem?_range h]; rfl)
theorem ok_best (F : Fun K "best_by_mask_before" "best_by_mask_before" sBestBy f fd) (T : Txt K mg C) (GB : Glob P w K mg base "bits_of" 1 fB fdB ["mask"] spBits) : FnOk P w K mg base CX0 2 f fd ["can_stand", "forme", "yet"] (spBest K) := by
  refine F.ok scBb (fun vs H Q E h => ?_) (fun cdv A outer s H vs Q E hr h => ?_)
  · obtain ⟨a, ay, c, pages, fm, Y, rfl, _⟩ := h
    rfl
  · obtain ⟨a, ay, c, pages, fm, Y, rfl, ha, hY, h8, hfm, hff, k⟩ := h
    refine ⟨_, pss_cons (ps_set (i := 3) scBb.nd rfl (Or.inr rfl) (pe_lst pa_nil))
      (pss_cons (ps_for PassesOwn.never rfl (pi_range1 (by rfl) T.range (pa_cons (pe_callB call_len_seq (by rfl) T.len PySem.boot_len (pa_cons (pv 0) pa_nil)) pa_nil)) (pg_name (i := 4) scBb.nd rfl (Or.inr rfl))
        (pss_cons (ps_setLc (i := 5) (own := [("bit", 7)]) (g := gName 7) (tt := tYes) rfl scBb.nd rfl rfl (sw_true rfl rfl (by decide) (by decide +kernel)) (pi_list (pe_g GB hr (pa_cons (pv 4) pa_nil))) (blkOk_by (by show blkC ["can_stand", "forme", "yet", "best", "before", "choices", "stands", "bit"] (defScope sBestBy) _ [("bit", 7)] = true; decide +kernel))
            (fun s H C cl fp => by exact pg_name (i := 7) scBb.nd rfl (Or.inl rfl))
            (fun s H C cl fp => by exact pts_nil)
            (fun s H C cl fp => by exact pe_ix (ixK (K := K)) (pv 3) (pe_op op_xor (pv 4) (pv 7)) (fun _ _ => rfl)))
        (pss_cons (ps_set (i := 6) scBb.nd rfl (Or.inl rfl) (pe_op op_or (pv 1) (pv 4)))
        (pss_cons (ps_if (pt_val (pe_ix ix_list (pv 0) (pv 6) (fun _ _ => rfl))) (pss_one (ps_expr (pe_bm PySem.F.plainAttrs_list PySem.F.slot_list_append PySem.F.type_list_append mt_append (pv 5) (pa_cons (pe_tup (pa_cons (pe_ix ix_list (pv 2) (pv 6) (fun _ _ => rfl)) (pa_cons (pv 6) pa_nil))) pa_nil)))) pss_nil)
        (pss_one (ps_expr (pe_bm PySem.F.plainAttrs_list PySem.F.slot_list_append PySem.F.type_list_append mt_append (pv 3) (pa_cons (pe_callB (cr_minP rfl (hu_of hr)) (by rfl) T.min PyProof.Rows.boot_min (pa_cons (pv 5) pa_nil)) pa_nil))))))))
      (pss_one (ps_ret (pv 3)))), ?_⟩
    have hl := fitsL_length c pages
    have h2n := pow_le256 h8
    refine ⟨Nat.zero_le _, fun r n0 => ?_⟩
    have s0 : Same H (upd H r (.lst [])) := same_new n0
    refine ⟨_, rfl, a, _, rfl, .inl (s0.seq ha), _, rfl, ?_, ?_, ?_⟩
    · rw [List.length_map, hl]; omega
    · rw [List.length_map, hl]; omega
    rw [List.length_map, hl, Int.toNat_natCast]
    refine for_range (n := 2 ^ pages.length) (fun i σ H' => ∃ (v4 v5 v6 : Option V) (ts : List Addr) (B : Nat → Nat × Nat), σ = [some (.ref a), some (.int fm), some (.ref ay), some (.ref r), v4, v5, v6, none] ∧ Same H H' ∧ H' r = some (.lst (ts.map V.ref)) ∧ ts.length = i ∧ PairsAt H' ts B ∧ ∀ s, s < i → BestAt (Sx07.fits c pages) Y fm s (B s))
      ⟨none, none, none, [], fun _ => (0, 0), rfl, s0, upd_same, rfl, fun j t e => by simp at e, fun s hs => absurd hs (Nat.not_lt_zero _)⟩ ?_ ?_
    · rintro i σ H' hi ⟨v4, v5, v6, ts, B, rfl, s1, hr1, hts, hP, hB⟩
      rw [Int.zero_add]
      have hi16 : i < 2 ^ 16 := Nat.lt_of_lt_of_le hi (pow_le16 h8)
      refine ⟨_, rfl, i, rfl, hi16, fun H2 q s2 n2 e2 => ?_⟩
      refine ⟨q, rfl, ⟨_, .of e2⟩, fun D hD => ?_⟩
      refine lc_listP (K := K) (a := q) (ea := fun (n : Nat) => V.int n) (as := bitsL i) (fun b => V.ref (ts.getD (i ^^^ b) r)) hD (.of e2) (Nat.le_trans (bitsL_length _) (by decide)) ?_ ?_
      · intro x H4 R hx s4 k4
        refine k4 _ rfl fun Q q => ⟨_, rfl, _, rfl, _, rfl, _, _, rfl, rfl, ?_⟩
        dsimp only
        rw [bxor_nat]
        have hlt := bitsL_less hi16 hx
        refine ⟨r, _, _, _, rfl, rfl, .of (s4 _ _ (s2 _ _ hr1)), atI_nat (v := V.ref (ts.getD (i ^^^ x) r)) ?_, q⟩
        rw [List.getElem?_map, List.getElem?_eq_getElem (by omega), List.getD_eq_getElem?_getD, List.getElem?_eq_getElem (by omega)]; rfl
      · intro H5 s5 h5
        have s25 := s2.trans s5
        refine ⟨_, rfl, _, rfl, _, _, rfl, rfl, ?_⟩
        dsimp only
        rw [bor_nat]
        have hst : fm ||| i < 2 ^ pages.length := Nat.or_lt_two_pow hfm hi
        have hDr : D ≠ r := fun z => by subst z; rw [s2 _ _ hr1] at hD; cases hD
        have nD : H' D = none := s2.free hD
        -- what was kept of one page less
        have hold : ∀ (j : Nat) (t : Addr) (p : Nat × Nat), ((bitsL i).map fun b => ts.getD (i ^^^ b) r)[j]? = some t → ((bitsL i).map fun b => B (i ^^^ b))[j]? = some p → H5 t = some (.tup [.int p.1, .int p.2]) := by
          intro j t p h1 h2
          rw [List.getElem?_map] at h1 h2
          cases e : (bitsL i)[j]? with
          | none => rw [e] at h1; cases h1
          | some b =>
            rw [e] at h1 h2
            cases h1
            cases h2
            have hlt := bitsL_less hi16 (List.mem_of_getElem? e)
            refine s25 _ _ (hP _ _ ?_)
            dsimp only
            rw [List.getD_eq_getElem?_getD, List.getElem?_eq_getElem (show i ^^^ b < ts.length by omega)]; rfl
        refine ⟨_, rfl, _, rfl, a, _, _, _, rfl, rfl, (s1.trans s25).seq ha, atI_bl (fitsL_get hst), _, rfl, ?_⟩
        refine ite2 (fun h1 => ?c1) (fun h1 => ?c2)
        case' c1 =>
          refine ⟨_, rfl, .inl ⟨rfl, _, .of h5⟩, _, rfl, _, rfl, ay, _, _, _, rfl, rfl, (s1.trans s25).seq hY, atI_Y hst, _, rfl, (by show 2 ≤ sizeLine; decide), fun tn ntn => ?_⟩
          have hDt : D ≠ tn := ne_of_none h5 ntn
          have s6 : Same H5 (upd H5 tn (.tup [V.int (Y (fm ||| i) : Nat), V.int ((fm ||| i : Nat) : Int)])) := same_new ntn
          refine ⟨D, _, _, rfl, rfl, s6 _ _ h5, ?_, ?_⟩
          · rw [List.length_map]; exact Nat.lt_of_le_of_lt (bitsL_length _) (by decide)
          have s7 : Same H' (upd (upd H5 tn (.tup [V.int (Y (fm ||| i) : Nat), V.int ((fm ||| i : Nat) : Int)])) D (.lst (((bitsL i).map fun b => V.ref (ts.getD (i ^^^ b) r)) ++ [V.ref tn]))) := same_put (s25.trans s6) nD
          have hD6 : (upd (upd H5 tn (.tup [V.int (Y (fm ||| i) : Nat), V.int ((fm ||| i : Nat) : Int)])) D (.lst (((bitsL i).map fun b => V.ref (ts.getD (i ^^^ b) r)) ++ [V.ref tn]))) D = some (.lst ((((bitsL i).map fun b => ts.getD (i ^^^ b) r) ++ [tn]).map V.ref)) := by
            rw [upd_same, List.map_append, List.map_map]; rfl
          have hcs : ∀ (j : Nat) (t : Addr) (p : Nat × Nat), (((bitsL i).map fun b => ts.getD (i ^^^ b) r) ++ [tn])[j]? = some t → (((bitsL i).map fun b => B (i ^^^ b)) ++ [(Y (fm ||| i), fm ||| i)])[j]? = some p → (upd (upd H5 tn (.tup [V.int (Y (fm ||| i) : Nat), V.int ((fm ||| i : Nat) : Int)])) D (.lst (((bitsL i).map fun b => V.ref (ts.getD (i ^^^ b) r)) ++ [V.ref tn]))) t = some (.tup [.int p.1, .int p.2]) := by
            intro j t p g1 g2
            by_cases hj : j < (bitsL i).length
            · rw [List.getElem?_append_left (by rw [List.length_map]; exact hj)] at g1 g2
              have g3 := hold j t p g1 g2
              rw [upd_ne (ne_of g3 h5 (by intro z; cases z)), upd_ne (ne_of_none g3 ntn)]; exact g3
            · rw [List.getElem?_append_right (by rw [List.length_map]; omega), List.length_map] at g1 g2
              have hj0 : j - (bitsL i).length = 0 := by
                have := (List.getElem?_eq_some_iff.mp g1).1
                rw [List.length_singleton] at this; omega
              rw [hj0] at g1 g2
              cases g1
              cases g2
              rw [upd_ne hDt.symm, upd_same]
          have hlen : (((bitsL i).map fun b => ts.getD (i ^^^ b) r) ++ [tn]).length = (((bitsL i).map fun b => B (i ^^^ b)) ++ [(Y (fm ||| i), fm ||| i)]).length := by simp
          have hch : ∀ p, p ∈ ((bitsL i).map fun b => B (i ^^^ b)) ++ [(Y (fm ||| i), fm ||| i)] ↔ Choice (Sx07.fits c pages) Y fm i B p := fun p => by
            rw [List.mem_append, List.mem_map, List.mem_singleton]
            constructor
            · rintro (⟨b, hb, rfl⟩ | rfl)
              · exact .inl ⟨b, hb, rfl⟩
              · exact .inr ⟨h1, rfl⟩
            · rintro (⟨b, hb, rfl⟩ | ⟨_, rfl⟩)
              · exact .inl ⟨b, hb, rfl⟩
              · exact .inr rfl
          generalize upd (upd H5 tn (.tup [V.int (Y (fm ||| i) : Nat), V.int ((fm ||| i : Nat) : Int)])) D (.lst (((bitsL i).map fun b => V.ref (ts.getD (i ^^^ b) r)) ++ [V.ref tn])) = H7 at s7 hD6 hcs ⊢
          generalize ((bitsL i).map fun b => ts.getD (i ^^^ b) r) ++ [tn] = cs at hD6 hcs hlen
          generalize ((bitsL i).map fun b => B (i ^^^ b)) ++ [(Y (fm ||| i), fm ||| i)] = ps at hcs hlen hch
        case' c2 =>
          obtain ⟨H7, eH7⟩ : ∃ H7, H7 = H5 := ⟨_, rfl⟩
          rw [← eH7]
          have s7 : Same H' H7 := by rw [eH7]; exact s25
          have hD6 : H7 D = some (.lst (((bitsL i).map fun b => ts.getD (i ^^^ b) r).map V.ref)) := by rw [eH7, h5, List.map_map]; rfl
          have hcs := hold
          rw [← eH7] at hcs
          have hlen : ((bitsL i).map fun b => ts.getD (i ^^^ b) r).length = ((bitsL i).map fun b => B (i ^^^ b)).length := by simp
          have hch : ∀ p, p ∈ ((bitsL i).map fun b => B (i ^^^ b)) ↔ Choice (Sx07.fits c pages) Y fm i B p := fun p => by
            rw [List.mem_map]
            constructor
            · rintro ⟨b, hb, rfl⟩
              exact .inl ⟨b, hb, rfl⟩
            · rintro (⟨b, hb, rfl⟩ | ⟨z, _⟩)
              · exact ⟨b, hb, rfl⟩
              · exact absurd z h1
          generalize ((bitsL i).map fun b => ts.getD (i ^^^ b) r) = cs at hD6 hcs hlen
          generalize ((bitsL i).map fun b => B (i ^^^ b)) = ps at hcs hlen hch
        all_goals
          have hpos : 0 < cs.length := by
            obtain ⟨p, hp⟩ := choice_ex (fit := Sx07.fits c pages) (Y := Y) (f := fm) (B := B) hi16 hff
            rw [hlen]
            exact List.length_pos_of_mem ((hch p).mpr hp)
          have hr7 := s7 _ _ hr1
          refine ⟨_, rfl, .inl ⟨rfl, _, .of hr7⟩, _, rfl, D, cs, ps.map fun p => ((p.1 : Int), (p.2 : Int)), rfl, .of hD6, by rw [hlen, List.length_map], ?_, hpos, fun j t p hj hp hle => ?_⟩
          · intro j t p hj hp
            rw [List.getElem?_map] at hp
            cases e : ps[j]? with
            | none => rw [e] at hp; cases hp
            | some p0 => rw [e] at hp; cases hp; exact .of (hcs j t p0 hj e)
          · rw [List.getElem?_map] at hp
            cases e : ps[j]? with
            | none => rw [e] at hp; cases hp
            | some p0 =>
              rw [e] at hp
              cases hp
              have ht := hcs j t p0 hj e
              have hbest : BestAt (Sx07.fits c pages) Y fm i p0 := by
                refine best_step (B := B) hi16 (fun b hb => hB _ (bitsL_less hi16 hb)) ((hch p0).mp (List.mem_of_getElem? e)) fun q hq => ?_
                have := hle _ (List.mem_map.mpr ⟨q, (hch q).mpr hq, rfl⟩)
                dsimp only at this
                omega
              refine ⟨r, _, _, rfl, rfl, hr7, ?_, ?_⟩
              · rw [List.length_map, hts]; exact Nat.lt_of_lt_of_le (show i < 1000 by omega) line1000
              · refine ⟨_, _, _, ts ++ [t], fun j => if j = i then p0 else B j, rfl, same_put (s1.trans s7) n0, ?_, ?_, ?_, fun z hz => ?_⟩
                · rw [upd_same, List.map_append]; rfl
                · rw [List.length_append, hts]; rfl
                · intro j' t' h'
                  by_cases hj' : j' < ts.length
                  · rw [List.getElem?_append_left hj'] at h'
                    have g := s7 _ _ (hP j' t' h')
                    rw [upd_ne (ne_of g hr7 (by intro z; cases z))]; dsimp only; rw [if_neg (show ¬ j' = i by omega)]; exact g
                  · rw [List.getElem?_append_right (by omega)] at h'
                    have hj0 : j' - ts.length = 0 := by
                      have := (List.getElem?_eq_some_iff.mp h').1
                      rw [List.length_singleton] at this; omega
                    rw [hj0] at h'
                    cases h'
                    rw [upd_ne (ne_of ht hr7 (by intro z; cases z))]; dsimp only; rw [if_pos (show j' = i by omega)]; exact ht
                · dsimp only
                  by_cases hzi : z = i
                  · rw [if_pos hzi, hzi]; exact hbest
                  · rw [if_neg hzi]; exact hB z (by omega)
    · rintro σ H' ⟨v4, v5, v6, ts, B, rfl, s1, hr1, hts, hP, hB⟩
      exact ⟨_, rfl, k H' r ts B s1 n0 hr1 hts hP hB⟩
end
end TC
end
section
set_option Elab.async false
set_option linter.all false
set_option maxRecDepth 100000
set_option maxHeartbeats 2000000
namespace TC
open PySem PySem.Spec PyProof.Rows L2
def StepsAt (H : Hp) (c : List Nat) (pages : List (List Nat)) (l : List Nat) (bs : List Addr) : Prop := ∀ (i : Nat) (b : Addr), bs[i]? = some b → ∃ (ts : List Addr) (B : Nat → Nat × Nat), H b = some (.lst (ts.map V.ref)) ∧ ts.length = 2 ^ pages.length ∧ PairsAt H ts B ∧
  ∀ s, s < 2 ^ pages.length → BestAt (Sx07.fits c pages) (fun m => (bestPlan c pages (l.drop (l.length - i)) m).1) (l.getD (l.length - 1 - i) 0) s (B s)
theorem Formes.drop {c : List Nat} {pages : List (List Nat)} {l : List Nat} (h : Formes c pages l) (j : Nat) : Formes c pages (l.drop j) := ⟨fun f hf => h.lt f (List.mem_of_mem_drop hf), fun f hf => h.fits f (List.mem_of_mem_drop hf)⟩
theorem drop_at {l : List Nat} {j f : Nat} (h : l[j]? = some f) : l.drop j = f :: l.drop (j + 1) := by
  have hj : j < l.length := (List.getElem?_eq_some_iff.mp h).1
  rw [List.drop_eq_getElem_cons hj]
  congr 1
  rw [List.getElem?_eq_getElem hj] at h
  exact Option.some.inj h
section
variable {P : Program} {w : World} {K : PySem.W.Frag} {mg : Str → Option Value} {base : Heap} {C f fA fB fW fK fI fN fC fF fM : Addr} {fd fdA fdB fdW fdK fdI fdN fdC fdF fdM : FuncData}
def spLeast (K : PySem.W.Frag) : Sp := fun vs H Q _ => ∃ (ac ap af : Addr) (s : Nat) (c l : List Nat) (as : List Addr) (pages : List (List Nat)), vs = [.ref ac, .ref ap, .int s, .ref af] ∧ SqL K H ac (vN c) ∧ PagesAt K H ap as pages ∧ (∀ p ∈ pages, p.length = c.length) ∧ c.length ≤ 32 ∧ pages.length ≤ 8 ∧ s < 2 ^ pages.length ∧ SqL K H af (vN l) ∧ l.length ≤ 8 ∧ Formes c pages l ∧
  ∀ (H' : Hp) (b am : Addr), Same H H' → H' b = some (.tup [.int (bestPlan c pages l s).1, .ref am]) → H' am = some (.lst (vN (bestPlan c pages l s).2)) → Q (.ref b) H'
abbrev nLeast : List Str := ["case", "pages", "standing", "formes", "can_stand", "letters", "yet", "steps", "forme", "best", "masks", "before", "wanted"]
theorem scLp : FnScope nLeast ["case", "pages", "standing", "formes"] (defScope sLeast) := ⟨rfl, rfl, rfl, by decide +kernel, rfl, by decide +kernel, by decide +kernel⟩
theorem ok_least (F : Fun K "least_plan" "least_plan" sLeast f fd) (T : Txt K mg C) (GC : Glob P w K mg base "can_stand_by_mask" 3 fC fdC ["case", "pages"] (spCan K)) (GW : Glob P w K mg base "wanted_by_mask" 2 fW fdW ["case", "pages"] (spWantBy K))
    (GB : Glob P w K mg base "best_by_mask_before" 2 fB fdB ["can_stand", "forme", "yet"] (spBest K)) : FnOk P w K mg base CX0 4 f fd ["case", "pages", "standing", "formes"] (spLeast K) := by
  refine F.ok scLp (fun vs H Q E h => ?_) (fun cdv A outer s H vs Q E hr h => ?_)
  · obtain ⟨ac, ap, af, s, c, l, as, pages, rfl, _⟩ := h
    rfl
  · obtain ⟨ac, ap, af, st, c, l, as, pages, rfl, hc, hp, hlen, hk, h8, hst, hf, hl8, hfo, k⟩ := h
    have hr2 : Room 2 _ := hr.mono (by decide)
    refine ⟨_, pss_cons (ps_set (i := 4) scLp.nd rfl (Or.inl rfl) (pe_g GC hr (pa_cons (pv 0) (pa_cons (pv 1) pa_nil))))
      (pss_cons (ps_set (i := 5) scLp.nd rfl (Or.inr rfl) (pe_lc (own := [("wanted", 12)]) (g := gName 12) (tt := tYes) rfl scLp.nd (pi_list (pe_g GW hr2 (pa_cons (pv 0) (pa_cons (pv 1) pa_nil)))) (blkOk_by (by show blkC nLeast (defScope sLeast) _ [("wanted", 12)] = true; decide +kernel))
        (fun s H C cl fp => by exact pg_name (i := 12) scLp.nd rfl (Or.inl rfl))
        (fun s H C cl fp => by exact pts_nil)
        (fun s H C cl fp => by exact pe_callB (sumK (K := K) rfl) (by rfl) T.sum PyProof.Rows.boot_sum (pa_cons (pv 12) pa_nil))))
      (pss_cons (ps_set (i := 6) scLp.nd rfl (Or.inl rfl) (pe_op op_rep (pe_lst (pa_cons pe_int pa_nil)) (pe_callB call_len_seq (by rfl) T.len PySem.boot_len (pa_cons (pv 4) pa_nil))))
      (pss_cons (ps_set (i := 7) scLp.nd rfl (Or.inl rfl) (pe_lst pa_nil))
      (pss_cons (ps_for PassesOwn.never rfl (pi_reversed (by rfl) T.rev (pa_cons (pv 3) pa_nil)) (pg_name (i := 8) scLp.nd rfl (Or.inr rfl))
        (pss_cons (ps_set (i := 9) scLp.nd rfl (Or.inr rfl) (pe_g GB hr2 (pa_cons (pv 4) (pa_cons (pv 8) (pa_cons (pv 6) pa_nil)))))
        (pss_cons (ps_setLc (i := 6) (own := [("before", 11)]) (g := gName 11) (tt := tYes) rfl scLp.nd rfl rfl (sw_true rfl rfl (by decide) (by decide +kernel)) (pi_range1 (by rfl) T.range (pa_cons (pe_callB call_len_seq (by rfl) T.len PySem.boot_len (pa_cons (pv 4) pa_nil)) pa_nil)) (blkOk_by (by show blkC nLeast (defScope sLeast) _ [("before", 11)] = true; decide +kernel))
          (fun s H C cl fp => by exact pg_name (i := 11) scLp.nd rfl (Or.inl rfl))
          (fun s H C cl fp => by exact pts_nil)
          (fun s H C cl fp => by exact pe_op op_add (pe_ix (ixK (K := K)) (pv 5) (pe_op op_and (pv 8) (pe_un un_inv (pv 11))) (fun _ _ => rfl)) (pe_ix (ixKT (K := K)) (pe_ix (ixK (K := K)) (pv 9) (pv 11) (fun _ _ => rfl)) pe_int (fun _ _ => rfl))))
        (pss_one (ps_expr (pe_bm PySem.F.plainAttrs_list PySem.F.slot_list_append PySem.F.type_list_append mt_append (pv 7) (pa_cons (pv 9) pa_nil)))))))
      (pss_cons (ps_set (i := 10) scLp.nd rfl (Or.inl rfl) (pe_lst pa_nil))
      (pss_cons (ps_set (i := 11) scLp.nd rfl (Or.inl rfl) (pv 2))
      (pss_cons (ps_for PassesOwn.never rfl (pi_reversed (by rfl) T.rev (pa_cons (pv 7) pa_nil)) (pg_name (i := 9) scLp.nd rfl (Or.inr rfl))
        (pss_cons (ps_set (i := 11) scLp.nd rfl (Or.inl rfl) (pe_ix ix_tup (pe_ix ix_list (pv 9) (pv 11) (fun _ _ => rfl)) pe_int (fun _ _ => rfl)))
        (pss_one (ps_expr (pe_bm PySem.F.plainAttrs_list PySem.F.slot_list_append PySem.F.type_list_append mt_append (pv 10) (pa_cons (pv 11) pa_nil))))))
      (pss_one (ps_ret (pe_tup (pa_cons (pe_ix ix_list (pv 6) (pv 2) (fun _ _ => rfl)) (pa_cons (pv 10) pa_nil)))))))))))), ?_⟩
    have h2n := pow_le256 h8
    have h2p : 0 < 2 ^ pages.length := Nat.two_pow_pos _
    have hwl := wantL_length c.length pages
    have hfl := fitsL_length c pages
    refine ⟨_, rfl, _, rfl, ac, ap, c, as, pages, rfl, hc, hp, hlen, hk, h8, fun H1 acs s1 n1 e1 => ?_⟩
    refine ⟨_, rfl, _, rfl, ac, ap, c, as, pages, rfl, s1.seq hc, hp.same s1, hlen, hk, h8, fun H2 r ys s2 n2 e2 hP => ?_⟩
    have hyl : ys.length = (wantL c.length pages).length := hP.len
    refine ⟨r, rfl, ⟨_, .of e2⟩, fun alt hD => ?_⟩
    refine lc_listP (K := K) (a := r) (ea := fun x : Addr × List Nat => V.ref x.1) (as := ys.zip (wantL c.length pages)) (fun x => V.int (Sx07.total x.2 : Nat)) hD (.of (by rw [e2, refs_zip ys (wantL c.length pages) (by omega)])) (by rw [List.length_zip, hyl, hwl, Nat.min_self]; exact Nat.le_trans h2n (by decide)) ?_ ?_
    · intro x H4 R hx s4 k4
      obtain ⟨j, hj⟩ := List.mem_iff_getElem?.mp hx
      obtain ⟨hj1, hj2⟩ := List.getElem?_zip_eq_some.mp hj
      exact k4 _ rfl fun Q q => ⟨_, rfl, x.1, iN x.2, rfl, (by rw [vN_iN]; exact s4.seq (hP.at_ j _ _ hj1 hj2)), (by rw [iN, total_sum]; exact q)⟩
    · intro H3 s3 h3
      have hlt : H3 alt = some (.lst (vN ((List.range (2 ^ pages.length)).map fun m => Sx07.total (Sx07.wants c.length pages m)))) := by
        rw [h3, zip_snd (fun w => V.int (Sx07.total w : Nat)) ys _ (by omega)]
        unfold wantL vN
        rw [List.map_map, List.map_map]
        rfl
      have sH3 := s1.trans (s2.trans s3)
      refine ⟨(by show 1 ≤ sizeLine; decide), fun p0 m0 => ?_⟩
      refine ⟨_, rfl, acs, _, rfl, .inl (.of ((same_new m0) _ _ (s3 _ _ (s2 _ _ e1)))), p0, _, _, rfl, rfl, upd_same, ?_, ?_, ?_, fun ay0 m1 => ?_⟩
      · rw [List.length_map, hfl]; omega
      · rw [List.length_map, hfl]; omega
      · rw [List.length_map, hfl, Int.toNat_natCast]; show 1 * 2 ^ pages.length ≤ sizeLine; exact Nat.le_trans (by omega) line1000
      rw [List.length_map, hfl, Int.toNat_natCast, zeros_rep]
      have s4 : Same H3 (upd (upd H3 p0 (.lst [V.int 0])) ay0 (.lst (vN (Sx07.zeros (2 ^ pages.length))))) := (same_new m0).trans (same_new m1)
      have eay : (upd (upd H3 p0 (.lst [V.int 0])) ay0 (.lst (vN (Sx07.zeros (2 ^ pages.length))))) ay0 = some (.lst (vN (Sx07.zeros (2 ^ pages.length)))) := upd_same
      generalize upd (upd H3 p0 (.lst [V.int 0])) ay0 (.lst (vN (Sx07.zeros (2 ^ pages.length)))) = H4 at s4 eay
      have sH4 := sH3.trans s4
      have hcs4 := s4 _ _ (s3 _ _ (s2 _ _ e1))
      have hlt4 := s4 _ _ hlt
      refine ⟨Nat.zero_le _, fun ast m2 => ?_⟩
      have s5 : Same H4 (upd H4 ast (.lst [])) := same_new m2
      refine ⟨_, rfl, af, _, rfl, (sH4.trans s5).seq hf, for_rev (K := K) (a := af) (xs := vN l) (fun j σ H' => ∃ (ay : Addr) (v8 v9 : Option V) (bs : List Addr), σ = [some (.ref ac), some (.ref ap), some (.int st), some (.ref af), some (.ref acs), some (.ref alt), some (.ref ay), some (.ref ast), v8, v9, none, none, none] ∧ Same H4 H' ∧
          H' ay = some (.lst (vN ((List.range (2 ^ pages.length)).map fun m => (bestPlan c pages (l.drop j) m).1))) ∧ H' ast = some (.lst (bs.map V.ref)) ∧ bs.length + j = l.length ∧ (∀ b ∈ bs, b ≠ ast) ∧ StepsAt H' c pages l bs) ?_ (fun j σ H' _ ⟨_, _, _, _, _, s6, _⟩ => (sH4.trans s6).seq hf) ?_ ?_⟩
      · rw [List.length_map]
        refine ⟨ay0, none, none, [], rfl, s5, ?_, upd_same, by simp, by simp, fun i b e => by simp at e⟩
        rw [s5 _ _ eay, List.drop_length]
        congr 3
        unfold Sx07.zeros
        rw [List.map_congr_left (g := fun _ => 0) fun m hm => by rw [bestPlan_nil (List.mem_range.mp hm)], List.map_const', List.length_range]
      · rintro j x σ H' hx ⟨ay, v8, v9, bs, rfl, s6, hay, hast, hbl, hne, hsteps⟩
        obtain ⟨fm, hfm, rfl⟩ := getElem?_map_some hx
        have hjl : j < l.length := (List.getElem?_eq_some_iff.mp hfm).1
        have ed := drop_at hfm
        have hf1 := hfo.lt fm (List.mem_of_getElem? hfm)
        have hf2 := hfo.fits fm (List.mem_of_getElem? hfm)
        refine ⟨_, rfl, _, rfl, _, rfl, acs, ay, c, pages, fm, fun m => (bestPlan c pages (l.drop (j + 1)) m).1, rfl, .of (s6 _ _ hcs4), .of hay, h8, hf1, hf2, fun H7 r7 ts B s7 n7 e7 htl hpairs hbest => ?_⟩
        have hps : ∀ m, m < 2 ^ pages.length → (bestPlan c pages (l.drop j) m).1 = Sx07.total (Sx07.wants c.length pages (andNot fm m)) + (B m).1 := fun m hm => by
          have hfo' := hfo.drop j
          rw [ed] at hfo' ⊢
          rw [(plan_step hlen hfo' hm (hbest m hm)).1, setFor_eq hlen]
        refine ⟨_, rfl, acs, _, rfl, .inl (.of (s7 _ _ (s6 _ _ hcs4))), _, rfl, ?_, ?_, fun D hD => ?_⟩
        · rw [List.length_map, hfl]; omega
        · rw [List.length_map, hfl]; omega
        rw [List.length_map, hfl, Int.toNat_natCast]
        refine lc_rangeP (n := 2 ^ pages.length) (fun m => V.int ((bestPlan c pages (l.drop j) m).1 : Nat)) hD (Nat.le_trans h2n (by decide)) ?_ ?_
        · intro x H8 R hx s8 k8
          refine k8 _ rfl fun Q q => ⟨_, rfl, _, rfl, _, rfl, _, rfl, _, _, rfl, rfl, ?_⟩
          dsimp only
          rw [band_not]
          have hxt : x < ts.length := by omega
          have htx : ts[x]? = some ts[x] := List.getElem?_eq_getElem hxt
          generalize ts[x] = tx at htx
          refine ⟨alt, _, _, _, rfl, rfl, .of (s8 _ _ (s7 _ _ (s6 _ _ hlt4))), atI_Y (andNot_lt hf1), _, rfl, _, rfl, r7, _, _, _, rfl, rfl, .of (s8 _ _ e7), atI_nat (v := V.ref tx) (by rw [List.getElem?_map, htx]; rfl), tx, _, _, _, rfl, rfl, .of (s8 _ _ (hpairs x tx htx)), (show atI [V.int (B x).1, V.int (B x).2] 0 = some (V.int (B x).1) from rfl), _, _, rfl, rfl, ?_⟩
          rw [hps x hx] at q
          exact q
        · intro H9 s9 h9
          have s79 := s7.trans s9
          have hast9 := s79 _ _ hast
          have r7a : r7 ≠ ast := fun z => by subst z; rw [hast] at n7; cases n7
          have Da : D ≠ ast := fun z => by subst z; rw [s7 _ _ hast] at hD; cases hD
          refine ⟨_, rfl, .inl ⟨rfl, _, .of hast9⟩, _, rfl, ast, _, _, rfl, rfl, hast9, ?_, ?_⟩
          · rw [List.length_map]; exact Nat.lt_of_lt_of_le (show bs.length < 1000 by omega) line1000
          · have up : ∀ b o, H9 b = some o → b ≠ ast → (upd H9 ast (.lst (bs.map V.ref ++ [V.ref r7]))) b = some o := fun b o e hb => by rw [upd_ne hb]; exact e
            have upT : ∀ {ts : List Addr} {B : Nat → Nat × Nat}, PairsAt H9 ts B → PairsAt (upd H9 ast (.lst (bs.map V.ref ++ [V.ref r7]))) ts B := fun hq j t e => up _ _ (hq j t e) (ne_of (hq j t e) hast9 (by intro z; cases z))
            refine ⟨D, _, _, bs ++ [r7], rfl, same_put (s6.trans s79) m2, ?_, ?_, ?_, ?_, fun i b e => ?_⟩
            · rw [upd_ne Da, h9]
              unfold vN
              rw [List.map_map]
              rfl
            · rw [upd_same, List.map_append]; rfl
            · rw [List.length_append, List.length_singleton]; omega
            · intro b hb
              rcases List.mem_append.mp hb with hb | hb
              · exact hne b hb
              · rw [List.mem_singleton.mp hb]; exact r7a
            · by_cases hi : i < bs.length
              · rw [List.getElem?_append_left hi] at e
                obtain ⟨ts', B', g1, g2, g3, g4⟩ := hsteps i b e
                exact ⟨ts', B', up _ _ (s79 _ _ g1) (hne b (List.mem_of_getElem? e)), g2, upT (g3.same s79), g4⟩
              · rw [List.getElem?_append_right (by omega)] at e
                have hi0 : i - bs.length = 0 := by
                  have := (List.getElem?_eq_some_iff.mp e).1
                  rw [List.length_singleton] at this; omega
                rw [hi0] at e
                cases e
                refine ⟨ts, B, up _ _ (s9 _ _ e7) r7a, htl, upT (hpairs.same s9), fun s hs => ?_⟩
                rw [show l.length - i = j + 1 by omega, show l.length - 1 - i = j by omega, List.getD_eq_getElem?_getD, hfm]
                exact hbest s hs
      · rintro σ H' ⟨ay, v8, v9, bs, rfl, s6, hay, hast, hbl, hne, hsteps⟩
        rw [List.drop_zero] at hay
        refine ⟨Nat.zero_le _, fun am n8 => ?_⟩
        have s8 : Same H' (upd H' am (.lst [])) := same_new n8
        refine ⟨_, rfl, ?_⟩
        refine ⟨_, rfl, ast, _, rfl, .of (s8 _ _ hast), for_rev (K := K) (a := ast) (xs := bs.map V.ref) (fun j σ H'' => ∃ (v9 : Option V) (m : Nat) (ms : List Nat), σ = [some (.ref ac), some (.ref ap), some (.int st), some (.ref af), some (.ref acs), some (.ref alt), some (.ref ay), some (.ref ast), v8, v9, some (.ref am), some (.int m), none] ∧ Same H' H'' ∧ H'' am = some (.lst (vN ms)) ∧
            m < 2 ^ pages.length ∧ ms.length + j = l.length ∧ (bestPlan c pages l st).2 = ms ++ (bestPlan c pages (l.drop (l.length - j)) m).2) ?_ (fun j σ H'' _ ⟨_, _, _, _, s9, _⟩ => .of (s9 _ _ hast)) ?_ ?_⟩
        · rw [List.length_map, show bs.length = l.length by omega]
          exact ⟨v9, st, [], rfl, s8, upd_same, hst, by simp, by rw [Nat.sub_self, List.drop_zero]; rfl⟩
        · rintro j x σ H'' hx ⟨v9', m, ms, rfl, s9, hms, hm, hml, hrow⟩
          obtain ⟨b, hb, rfl⟩ := getElem?_map_some hx
          obtain ⟨ts, B, g1, g2, g3, g4⟩ := hsteps j b hb
          have hq : l.length - 1 - j < l.length := by omega
          have hfm : l[l.length - 1 - j]? = some (l.getD (l.length - 1 - j) 0) := by rw [List.getD_eq_getElem?_getD, List.getElem?_eq_getElem hq]; rfl
          generalize l.getD (l.length - 1 - j) 0 = fm at hfm g4
          have ed := drop_at hfm
          rw [show l.length - 1 - j + 1 = l.length - j by omega] at ed
          have hfo' := hfo.drop (l.length - 1 - j)
          rw [ed] at hfo'
          obtain ⟨k1, k2⟩ := plan_step hlen hfo' hm (g4 m hm)
          have hmt : m < ts.length := by omega
          have htm : ts[m]? = some ts[m] := List.getElem?_eq_getElem hmt
          generalize ts[m] = tm at htm
          refine ⟨_, rfl, _, rfl, b, _, _, _, rfl, rfl, .of (s9 _ _ g1), atI_nat (v := V.ref tm) (by rw [List.getElem?_map, htm]; rfl), tm, _, _, _, rfl, rfl, .of (s9 _ _ (g3 m tm htm)), (show atI [V.int (B m).1, V.int (B m).2] 1 = some (V.int (B m).2) from rfl), ?_⟩
          refine ⟨_, rfl, .inl ⟨rfl, _, .of hms⟩, _, rfl, am, _, _, rfl, rfl, hms, ?_, ?_⟩
          · rw [List.length_map]; exact Nat.lt_of_lt_of_le (show ms.length < 1000 by omega) line1000
          · refine ⟨_, (B m).2, ms ++ [(B m).2], rfl, same_put s9 n8, ?_, k2, ?_, ?_⟩
            · rw [upd_same, vN_snoc]
            · rw [List.length_append, List.length_singleton]; omega
            · rw [hrow, show l.length - (j + 1) = l.length - 1 - j by omega, ed, k1, List.append_assoc]; rfl
        · rintro σ H'' ⟨v9', m, ms, rfl, s9, hms, hm, hml, hrow⟩
          rw [Nat.sub_zero, List.drop_length, bestPlan_nil hm, List.append_nil] at hrow
          refine ⟨_, rfl, _, rfl, ay, _, _, _, rfl, rfl, .of (s9 _ _ hay), atI_Y hst, _, rfl, (by show 2 ≤ sizeLine; decide), fun b nb => ?_⟩
          have s10 := same_new (o := .tup [V.int ((bestPlan c pages l st).1 : Nat), V.ref am]) nb
          exact k _ b am (sH4.trans (s6.trans (s9.trans s10))) upd_same (by rw [s10 _ _ hms, hrow])
end
end TC
end
section
set_option Elab.async false
set_option linter.all false
set_option maxRecDepth 100000
set_option maxHeartbeats 2000000
namespace TC
open PySem PySem.Spec PyProof.Rows L2
theorem ints_vN (l : List Nat) : (Sx07.ints l).map V.int = vN l := by unfold Sx07.ints; rw [List.map_map]; rfl
theorem total_zero {c : List Nat} : Sx07.total c = 0 ↔ c.all (fun x => x == 0) = true := by
  induction c with
  | nil => exact ⟨fun _ => rfl, fun _ => rfl⟩
  | cons x c ih =>
    rw [total_cons, List.all_cons, Bool.and_eq_true, ← ih, beq_iff_eq]
    omega
theorem run_length {c : List Nat} {pages : List (List Nat)} {s : Nat} {l row : List Nat} (h : Run c pages s l row) : row.length = l.length := by
  induction h with
  | nil => rfl
  | cons _ _ ih => rw [List.length_cons, List.length_cons, ih]
theorem hf_no_has (ac ap : Addr) (st wk : Nat) : (hf ac ap st wk).lookup ("has_pages" : Str) = none := rfl
theorem one_of {p : Int} {l : List Nat} (ha : Asked1 (p, iN l)) (hp : p = 3 ∨ p = 4 ∨ p = 6 ∨ p = 9) : ∃ i : Nat, l = [i] := by
  obtain ⟨i, e⟩ := ha.one hp
  match l, e with
  | [a], e => exact ⟨a, rfl⟩
theorem none_of {p : Int} {l : List Nat} (ha : Asked1 (p, iN l)) (hp : p = 5 ∨ p = 7 ∨ p = 8) : l = [] := List.map_eq_nil_iff.mp (ha.none hp)
section
variable {P : Program} {w : World} {K : PySem.W.Frag} {mg : Str → Option Value} {base : Heap} {C f fW fL fH fC fF fA fB : Addr} {fd fdW fdL fdH fdC fdF fdA fdB : FuncData}
theorem scFt : FnScope ["house", "numbers", "mask", "lacking"] ["house", "numbers"] (defScope sFits) := ⟨rfl, rfl, rfl, by decide +kernel, rfl, by decide +kernel, by decide +kernel⟩
theorem ok_fits (F : Fun K "fits" "fits" sFits f fd) (T : Txt K mg C) (GH : FnOk P w K mg base CX0 1 fH fdH ["self", "mask"] (spHas K C)) (bH : Binds K fdH ["self", "mask"] []) (mH : Meth K C "has_pages" fH)
    (GW : Glob P w K mg base "wanted_together" 2 fW fdW ["case", "pages", "mask"] (spWant K)) (GL : Glob P w K mg base "lacking_of_each" 1 fL fdL ["case", "wanted"] (spZip K fun h w => w - h)) : FnOk P w K mg base CX0 3 f fd ["house", "numbers"] (spCall K C 6) := by
  refine F.ok scFt (fun vs H Q E h => ?_) (fun cdv A outer s H vs Q E hr h => ?_)
  · obtain ⟨hp, an, ac, ap, as, s, l, rfl, _⟩ := h
    rfl
  · obtain ⟨hp, an, ac, ap, as, s, l, rfl, hh, g, hn, ha, k⟩ := h
    obtain ⟨dx, hi⟩ := hh.ins
    obtain ⟨m, rfl⟩ := one_of ha (.inr (.inr (.inl rfl)))
    have hr1 : Room 1 _ := hr.mono (by decide)
    refine ⟨_, pss_cons (ps_set (i := 2) scFt.nd rfl (Or.inl rfl) (pe_ix ix_list (pv 1) pe_int (fun _ _ => rfl)))
      (pss_cons (ps_if (pt_not (pt_val (pe_meth (pv 0) T.cl mH GH hr1 bH .nil pass0 (pa_cons (pv 2) pa_nil)))) (pss_one (ps_ret (pe_lst (pa_cons (pe_gint T.cNo) pa_nil)))) pss_nil)
      (pss_cons (ps_set (i := 3) scFt.nd rfl (Or.inl rfl) (pe_g GL hr1 (pa_cons (pe_fld (pv 0) rfl) (pa_cons (pe_g GW hr (pa_cons (pe_fld (pv 0) rfl) (pa_cons (pe_fld (pv 0) rfl) (pa_cons (pv 2) pa_nil)))) pa_nil))))
      (pss_one (ps_ret (pe_op op_cat (pe_lst (pa_cons (pe_ifExp (pt_cmpR op_eq (pe_callB (cr_sum rfl) (by rfl) T.sum PyProof.Rows.boot_sum (pa_cons (pv 3) pa_nil)) pe_int (nomark _)) pe_int pe_int) pa_nil)) (pv 3)))))), ?_⟩
    have es := step_fits s m
    unfold Sx07.step at es
    dsimp only at es
    refine ⟨_, rfl, an, _, _, _, rfl, rfl, hn, (show atI (vN [m]) 0 = some (V.int m) from rfl), ?_⟩
    refine ⟨_, rfl, hp, dx, _, rfl, hi, hf_no_has .., _, rfl, hp, ac, ap, as, s, m, rfl, hh, _, rfl, ?_⟩
    refine ite2 (fun h1 => ?_) (fun h1 => ?_)
    · rw [Bool.not_eq_true'] at h1
      rw [if_pos h1] at es
      exact ⟨(by show 1 ≤ sizeLine; decide), fun r hr => k.same hh es (same_new hr) hr upd_same⟩
    · rw [Bool.not_eq_true'] at h1
      rw [if_neg h1] at es
      refine ⟨_, rfl, hp, C, dx, _, _, rfl, hi, T.cl, T.nCase, hf_case .., _, rfl, hp, C, dx, _, _, rfl, hi, T.cl, T.nCase, hf_case .., _, rfl, hp, C, dx, _, _, rfl, hi, T.cl, T.nPages, hf_pages .., _, rfl, ac, ap, m, s.case_, as, s.pages, rfl, .of hh.case_, hh.pagesAt, g.like, Nat.le_trans g.letters (by decide), fun H1 r1 s1 n1 e1 => ?_⟩
      refine ⟨ac, r1, s.case_, _, rfl, s1.seq (.of hh.case_), .of e1, Nat.le_trans g.letters (by decide), fun H2 r2 s2 n2 e2 => ?_⟩
      have e2' : H2 r2 = some (.lst (vN (Sx07.lacks s.case_ (Sx07.wants s.case_.length s.pages m)))) := e2
      have hll : (Sx07.lacks s.case_ (Sx07.wants s.case_.length s.pages m)).length ≤ 32 := by
        unfold Sx07.lacks
        rw [List.length_zipWith, wants_length g.like, Nat.min_self]; exact g.letters
      have hz : Sx07.fits s.case_ s.pages m = true ↔ Sx07.total (Sx07.lacks s.case_ (Sx07.wants s.case_.length s.pages m)) = 0 := total_zero.symm
      generalize Sx07.lacks s.case_ (Sx07.wants s.case_.length s.pages m) = lk at *
      refine ⟨_, rfl, r2, iN lk, rfl, (by rw [vN_iN]; exact .of e2'), rfl, _, rfl, ?_⟩
      rw [iN, total_sum]
      have fin : ∀ (b : Int) (p1 : Addr), ansOf ⟨if Sx07.fits s.case_ s.pages m = true then 1 else 0, Sx07.ints lk⟩ = b :: Sx07.ints lk → H2 p1 = none → ∀ r, (upd H2 p1 (.lst [V.int b])) r = none → Q (.ref r) (upd (upd H2 p1 (.lst [V.int b])) r (.lst ([V.int b] ++ vN lk))) := by
        intro b p1 eb m1 r hr
        have s3 := same_new (o := .lst [V.int b]) m1
        refine k.same hh es ((s1.trans s2).trans (s3.trans (same_new hr))) ((s1.trans s2).free (s3.free hr)) ?_
        rw [upd_same, eb, List.map_cons, ints_vN]; rfl
      have sz : ∀ b : Int, ([V.int b] : List V).length + (vN lk).length ≤ sizeLine := fun b => by
        rw [List.length_map]; show 1 + lk.length ≤ sizeLine
        exact Nat.le_trans (by omega) line1000
      refine ite2 (fun h2 => ?_) (fun h2 => ?_)
      · have h2' : Sx07.total lk = 0 := by
          have h2 := of_decide_eq_true h2
          injection h2 with h2
          omega
        refine ⟨(by show 1 ≤ sizeLine; decide), fun p1 m1 => ⟨_, rfl, p1, r2, _, _, rfl, rfl, upd_same, (same_new m1) _ _ e2', sz 1, fin 1 p1 (by rw [if_pos (hz.mpr h2')]; rfl) m1⟩⟩
      · have h2' : ¬ Sx07.fits s.case_ s.pages m = true := fun z => h2 (by rw [hz.mp z]; rfl)
        refine ⟨(by show 1 ≤ sizeLine; decide), fun p1 m1 => ⟨_, rfl, p1, r2, _, _, rfl, rfl, upd_same, (same_new m1) _ _ e2', sz 0, fin 0 p1 (by rw [if_neg h2']; rfl) m1⟩⟩
theorem scFs : FnScope ["house", "numbers", "masks"] ["house", "numbers"] (defScope sFullest) := ⟨rfl, rfl, rfl, by decide +kernel, rfl, by decide +kernel, by decide +kernel⟩
theorem ok_fullest (F : Fun K "fullest" "fullest" sFullest f fd) (T : Txt K mg C) (GC : Glob P w K mg base "can_stand_by_mask" 3 fC fdC ["case", "pages"] (spCan K)) (GF : Glob P w K mg base "fullest_masks" 3 fF fdF ["can_stand"] (spFull K)) : FnOk P w K mg base CX0 4 f fd ["house", "numbers"] (spCall K C 7) := by
  refine F.ok scFs (fun vs H Q E h => ?_) (fun cdv A outer s H vs Q E hr h => ?_)
  · obtain ⟨hp, an, ac, ap, as, s, l, rfl, _⟩ := h
    rfl
  · obtain ⟨hp, an, ac, ap, as, s, l, rfl, hh, g, hn, ha, k⟩ := h
    obtain ⟨dx, hi⟩ := hh.ins
    have el := none_of ha (.inr (.inl rfl))
    subst el
    refine ⟨_, pss_cons (ps_set (i := 2) scFs.nd rfl (Or.inl rfl) (pe_g GF hr (pa_cons (pe_g GC hr (pa_cons (pe_fld (pv 0) rfl) (pa_cons (pe_fld (pv 0) rfl) pa_nil))) pa_nil)))
      (pss_one (ps_ret (pe_op op_cat (pe_lst (pa_cons (pe_callB call_len_seq (by rfl) T.len PySem.boot_len (pa_cons (pv 2) pa_nil)) pa_nil)) (pv 2)))), ?_⟩
    have es := step_fullest s
    unfold Sx07.step at es
    dsimp only at es
    refine ⟨_, rfl, hp, C, dx, _, _, rfl, hi, T.cl, T.nCase, hf_case .., _, rfl, hp, C, dx, _, _, rfl, hi, T.cl, T.nPages, hf_pages .., ac, ap, s.case_, as, s.pages, rfl, .of hh.case_, hh.pagesAt, g.like, g.letters, g.few, fun H1 r1 s1 n1 e1 => ?_⟩
    refine ⟨r1, s.case_, s.pages, rfl, .of e1, g.few, fun H2 r2 s2 n2 e2 => ?_⟩
    refine ⟨_, rfl, r2, _, rfl, .inl (.of e2), (by show 1 ≤ sizeLine; decide), fun p1 m1 => ?_⟩
    have hlen : (Sx07.fullest s.case_ s.pages).length ≤ 256 := by
      unfold Sx07.fullest
      refine Nat.le_trans (List.length_filter_le _ _) ?_
      rw [List.length_range]; exact pow_le256 g.few
    rw [List.length_map]
    have s3 := same_new (o := .lst [V.int ((Sx07.fullest s.case_ s.pages).length : Nat)]) m1
    refine ⟨_, rfl, p1, r2, _, _, rfl, rfl, upd_same, s3 _ _ e2, ?_, fun r hr => ?_⟩
    · rw [List.length_map]
      show 1 + (Sx07.fullest s.case_ s.pages).length ≤ sizeLine
      exact Nat.le_trans (by omega) line1000
    · refine k.same hh es ((s1.trans s2).trans (s3.trans (same_new hr))) ((s1.trans s2).free (s3.free hr)) ?_
      rw [upd_same]
      show _ = some (HO.lst (V.int _ :: (Sx07.ints _).map V.int))
      rw [ints_vN]; rfl
theorem scTu : FnScope ["house", "numbers", "can_stand", "row"] ["house", "numbers"] (defScope sTurns) := ⟨rfl, rfl, rfl, by decide +kernel, rfl, by decide +kernel, by decide +kernel⟩
theorem ok_turns (F : Fun K "turns" "turns" sTurns f fd) (T : Txt K mg C) (GC : Glob P w K mg base "can_stand_by_mask" 3 fC fdC ["case", "pages"] (spCan K)) (GA : Glob P w K mg base "each_stands_alone" 2 fA fdA ["can_stand"] (spAlone K)) (GF : Glob P w K mg base "first_fewest_row" 4 fF fdF ["can_stand"] (spFirst K)) :
    FnOk P w K mg base CX0 5 f fd ["house", "numbers"] (spCall K C 8) := by
  refine F.ok scTu (fun vs H Q E h => ?_) (fun cdv A outer s H vs Q E hr h => ?_)
  · obtain ⟨hp, an, ac, ap, as, s, l, rfl, _⟩ := h
    rfl
  · obtain ⟨hp, an, ac, ap, as, s, l, rfl, hh, g, hn, ha, k⟩ := h
    obtain ⟨dx, hi⟩ := hh.ins
    have el := none_of ha (.inr (.inr rfl))
    subst el
    have hr3 : Room 3 _ := hr.mono (by decide)
    have hr2 : Room 2 _ := hr.mono (by decide)
    refine ⟨_, pss_cons (ps_set (i := 2) scTu.nd rfl (Or.inl rfl) (pe_g GC hr3 (pa_cons (pe_fld (pv 0) rfl) (pa_cons (pe_fld (pv 0) rfl) pa_nil))))
      (pss_cons (ps_if (pt_not (pt_val (pe_g GA hr2 (pa_cons (pv 2) pa_nil)))) (pss_one (ps_ret (pe_lst (pa_cons (pe_gint T.cCannot) pa_nil)))) pss_nil)
      (pss_cons (ps_set (i := 3) scTu.nd rfl (Or.inl rfl) (pe_g GF hr (pa_cons (pv 2) pa_nil)))
      (pss_one (ps_ret (pe_op op_cat (pe_lst (pa_cons (pe_callB call_len_seq (by rfl) T.len PySem.boot_len (pa_cons (pv 3) pa_nil)) pa_nil)) (pv 3)))))), ?_⟩
    have es := step_turns s
    unfold Sx07.step at es
    dsimp only at es
    have hnone := turns_none_iff (case_ := s.case_) g.few g.like
    refine ⟨_, rfl, hp, C, dx, _, _, rfl, hi, T.cl, T.nCase, hf_case .., _, rfl, hp, C, dx, _, _, rfl, hi, T.cl, T.nPages, hf_pages .., ac, ap, s.case_, as, s.pages, rfl, .of hh.case_, hh.pagesAt, g.like, g.letters, g.few, fun H1 r1 s1 n1 e1 => ?_⟩
    refine ⟨_, rfl, r1, s.case_, s.pages, rfl, .of e1, g.few, fun H2 b s2 hb => ⟨_, rfl, ?_⟩⟩
    refine ite2 (fun h1 => ?_) (fun h1 => ?_)
    · have hbf : ¬ b = true := by rw [Bool.not_eq_true'] at h1; rw [h1]; decide
      have hn : Sx07.turns s.case_ s.pages = none := hnone.mpr (Classical.byContradiction fun z => hbf (hb.mpr fun i hi => by
        cases e : Sx07.fits s.case_ s.pages (2 ^ i) with
        | true => rfl
        | false => exact absurd ⟨i, hi, e⟩ z))
      rw [hn] at es
      exact ⟨(by show 1 ≤ sizeLine; decide), fun r hr => k.same hh es ((s1.trans s2).trans (same_new hr)) ((s1.trans s2).free hr) upd_same⟩
    · have hbt : b = true := by rw [Bool.not_eq_true', Bool.not_eq_false] at h1; exact h1
      have hal := hb.mp hbt
      refine ⟨_, rfl, r1, s.case_, s.pages, rfl, .of (s2 _ _ e1), g.few, hal, fun H3 r3 x s3 n3 e3 hFR hx8 => ?_⟩
      have ht : Sx07.turns s.case_ s.pages = some x := (turns_iff g.few).mpr hFR
      rw [ht] at es
      refine ⟨_, rfl, r3, _, rfl, .inl (.of e3), (by show 1 ≤ sizeLine; decide), fun p1 m1 => ?_⟩
      rw [List.length_map]
      have s4 := same_new (o := .lst [V.int (x.length : Nat)]) m1
      have s13 := s1.trans (s2.trans s3)
      refine ⟨_, rfl, p1, r3, _, _, rfl, rfl, upd_same, s4 _ _ e3, ?_, fun r hr => ?_⟩
      · rw [List.length_map]
        show 1 + x.length ≤ sizeLine
        exact Nat.le_trans (by omega) line1000
      · refine k.same hh es (s13.trans (s4.trans (same_new hr))) (s13.free (s4.free hr)) ?_
        rw [upd_same]
        show _ = some (HO.lst (V.int _ :: (Sx07.ints _).map V.int))
        rw [ints_vN]; rfl
theorem scBo : FnScope ["house", "numbers", "most_parts", "cheapest"] ["house", "numbers"] (defScope sBought) := ⟨rfl, rfl, rfl, by decide +kernel, rfl, by decide +kernel, by decide +kernel⟩
theorem ok_bought (F : Fun K "bought" "bought" sBought f fd) (T : Txt K mg C) (GC : Glob P w K mg base "first_cheapest_row" 12 fC fdC ["case", "pages", "turns"] (spCheapest K)) : FnOk P w K mg base CX0 13 f fd ["house", "numbers"] (spCall K C 9) := by
  refine F.ok scBo (fun vs H Q E h => ?_) (fun cdv A outer s H vs Q E hr h => ?_)
  · obtain ⟨hp, an, ac, ap, as, s, l, rfl, _⟩ := h
    rfl
  · obtain ⟨hp, an, ac, ap, as, s, l, rfl, hh, g, hn, ha, k⟩ := h
    obtain ⟨dx, hi⟩ := hh.ins
    obtain ⟨t, rfl⟩ := one_of ha (.inr (.inr (.inr rfl)))
    refine ⟨_, pss_cons (ps_set (i := 2) scBo.nd rfl (Or.inl rfl) (pe_ix ix_list (pv 1) pe_int (fun _ _ => rfl)))
      (pss_cons (ps_if (pw_and (pt_cmpR op_eq (pv 2) pe_int (nomark _)) (pw_and1 (pt_cmpR op_gt (pe_callB call_len_seq (by rfl) T.len PySem.boot_len (pa_cons (pe_fld (pv 0) rfl) pa_nil)) pe_int (nomark _)))).pt (pss_one (ps_ret (pe_lst (pa_cons (pe_gint T.cCannot) pa_nil)))) pss_nil)
      (pss_cons (ps_set (i := 3) scBo.nd rfl (Or.inl rfl) (pe_g GC hr (pa_cons (pe_fld (pv 0) rfl) (pa_cons (pe_fld (pv 0) rfl) (pa_cons (pv 2) pa_nil)))))
      (pss_one (ps_ret (pe_op op_cat (pe_op op_cat (pe_lst (pa_cons (pe_ix ix_tup (pv 3) pe_int (fun _ _ => rfl)) pa_nil)) (pe_ix ix_tup (pv 3) pe_int (fun _ _ => rfl))) (pe_ix ix_tup (pv 3) pe_int (fun _ _ => rfl))))))), ?_⟩
    have es := step_bought s t
    unfold Sx07.step at es
    dsimp only at es
    have hnone := bought_none_iff (case_ := s.case_) (t := t) g.few
    refine ⟨_, rfl, an, _, _, _, rfl, rfl, hn, (show atI (vN [t]) 0 = some (V.int t) from rfl), ?_⟩
    refine (have tail : (¬ (t = 0 ∧ s.pages ≠ []) → (?T : Prop)) := ?h; ?g)
    case g =>
      refine ⟨_, rfl, rfl, _, rfl, ?_⟩
      refine ite2 (fun h1 => ?_) (fun h1 => ?_)
      · have ht : t = 0 := by
          have h1 := of_decide_eq_true h1
          injection h1 with h1
          omega
        refine ⟨_, rfl, hp, C, dx, _, _, rfl, hi, T.cl, T.nPages, hf_pages .., ap, _, rfl, .inl (.of hh.pages), _, _, rfl, rfl, _, rfl, ?_⟩
        rw [List.length_map, hh.len]
        refine ite2 (fun h2 => ?_) (fun h2 => ?_)
        · have h2 := of_decide_eq_true h2
          rw [hnone.mpr ⟨ht, fun z => by rw [z] at h2; simp at h2⟩] at es
          exact ⟨(by show 1 ≤ sizeLine; decide), fun r hr => k.same hh es (same_new hr) hr upd_same⟩
        · refine tail fun ⟨_, z⟩ => h2 (decide_eq_true ?_)
          have := List.length_pos_iff.mpr z
          omega
      · refine iteF ?_
        exact tail fun ⟨z, _⟩ => h1 (by rw [z]; rfl)
    case h =>
      intro hok
      refine ⟨_, rfl, hp, C, dx, _, _, rfl, hi, T.cl, T.nCase, hf_case .., _, rfl, hp, C, dx, _, _, rfl, hi, T.cl, T.nPages, hf_pages .., _, rfl, ac, ap, t, s.case_, as, s.pages, rfl, .of hh.case_, hh.pagesAt, g.like, g.letters, g.few, ?_, fun H1 b ae ar x s1 hb e1 e2 e3 => ?_⟩
      · intro z
        apply Nat.pos_of_ne_zero
        intro z2
        exact hok ⟨z2, fun z3 => z (by rw [z3]; rfl)⟩
      · rw [hb] at es
        dsimp only at es
        have hpx := ((bought_iff g.few).mp hb).mem.1
        have hx8 : x.length ≤ 8 := Nat.le_trans (hpx.few (n := s.pages.length) (Nat.le_trans g.few (by decide)) (allOf_lt _)) (Nat.le_trans (pcnt_le (allOf_lt _)) g.few)
        have hml : (Sx07.missing s.case_ s.pages x).length ≤ 32 := by
          rw [missing_eq, miss_length (k := s.case_.length) (fun b => by show (List.zipWith _ _ _).length = _; rw [List.length_zipWith, wants_length g.like, Nat.min_self]) (by unfold Sx07.zeros; rw [List.length_replicate])]
          exact g.letters
        generalize Sx07.missing s.case_ s.pages x = ms at *
        refine ⟨_, rfl, b, _, _, _, rfl, rfl, .of e1, (show atI [V.int (Sx07.total ms : Nat), V.ref ae, V.ref ar] 0 = some (V.int (Sx07.total ms : Nat)) from rfl), (by show 1 ≤ sizeLine; decide), fun p1 m1 => ?_⟩
        have s2 := same_new (o := .lst [V.int (Sx07.total ms : Nat)]) m1
        refine ⟨_, rfl, b, _, _, _, rfl, rfl, .of (s2 _ _ e1), (show atI [V.int (Sx07.total ms : Nat), V.ref ae, V.ref ar] 1 = some (V.ref ae) from rfl), p1, ae, _, _, rfl, rfl, upd_same, s2 _ _ e2, ?_, fun p2 m2 => ?_⟩
        · rw [List.length_map]; show 1 + ms.length ≤ sizeLine; exact Nat.le_trans (by omega) line1000
        have s3 := same_new (o := .lst ([V.int (Sx07.total ms : Nat)] ++ vN ms)) m2
        refine ⟨_, rfl, b, _, _, _, rfl, rfl, .of (s3 _ _ (s2 _ _ e1)), (show atI [V.int (Sx07.total ms : Nat), V.ref ae, V.ref ar] 2 = some (V.ref ar) from rfl), p2, ar, _, _, rfl, rfl, upd_same, s3 _ _ (s2 _ _ e3), ?_, fun r hr => ?_⟩
        · rw [List.length_append, List.length_map, List.length_map]; show 1 + ms.length + x.length ≤ sizeLine; exact Nat.le_trans (by omega) line1000
        · refine k.same hh es (s1.trans (s2.trans (s3.trans (same_new hr)))) (s1.free (s2.free (s3.free hr))) ?_
          rw [upd_same]
          show _ = some (HO.lst (V.int _ :: (Sx07.ints ms ++ Sx07.ints x).map V.int))
          rw [List.map_append, ints_vN, ints_vN]; rfl
theorem scPl : FnScope ["house", "formes", "can_stand", "least", "forme"] ["house", "formes"] (defScope sPlan) := ⟨rfl, rfl, rfl, by decide +kernel, rfl, by decide +kernel, by decide +kernel⟩
theorem ok_plan (F : Fun K "plan" "plan" sPlan f fd) (T : Txt K mg C) (GH : FnOk P w K mg base CX0 1 fH fdH ["self", "mask"] (spHas K C)) (bH : Binds K fdH ["self", "mask"] []) (mH : Meth K C "has_pages" fH)
    (GC : Glob P w K mg base "can_stand_by_mask" 3 fC fdC ["case", "pages"] (spCan K)) (GL : Glob P w K mg base "least_plan" 4 fL fdL ["case", "pages", "standing", "formes"] (spLeast K)) : FnOk P w K mg base CX0 5 f fd ["house", "formes"] (spCall K C 10) := by
  refine F.ok scPl (fun vs H Q E h => ?_) (fun cdv A outer s H vs Q E hr h => ?_)
  · obtain ⟨hp, an, ac, ap, as, s, l, rfl, _⟩ := h
    rfl
  · obtain ⟨hp, an, ac, ap, as, s, l, rfl, hh, g, hn, ha, k⟩ := h
    obtain ⟨dx, hi⟩ := hh.ins
    have hr1 : Room 1 _ := hr.mono (by decide)
    have hr3 : Room 3 _ := hr.mono (by decide)
    refine ⟨_, pss_cons (ps_if (pw_or (pt_cmpR op_gt (pe_callB call_len_seq (by rfl) T.len PySem.boot_len (pa_cons (pv 1) pa_nil)) (pe_gint T.cFormes) (nomark _)) (pw_or1 (pt_not (pt_val (pe_callB (cr_all rfl) (by rfl) T.all PyProof.Rows.boot_all (pa_cons
          (pe_lc (own := [("forme", 4)]) (g := gName 4) (tt := tYes) rfl scPl.nd (pi_list (pv 1)) (blkOk_by (by show blkC ["house", "formes", "can_stand", "least", "forme"] (defScope sPlan) _ [("forme", 4)] = true; decide +kernel))
            (fun s H C cl fp => by exact pg_name (i := 4) scPl.nd rfl (Or.inl rfl))
            (fun s H C cl fp => by exact pts_nil)
            (fun s H C cl fp => by exact pe_meth (pv 0) T.cl mH GH hr1 bH .nil pass0 (pa_cons (pv 4) pa_nil))) pa_nil)))))).pt (pss_one (ps_ret (pe_lst (pa_cons (pe_gint T.cNo) pa_nil)))) pss_nil)
      (pss_cons (ps_set (i := 2) scPl.nd rfl (Or.inr rfl) (pe_g GC hr3 (pa_cons (pe_fld (pv 0) rfl) (pa_cons (pe_fld (pv 0) rfl) pa_nil))))
      (pss_cons (ps_if (pt_not (pt_val (pe_callB (cr_all rfl) (by rfl) T.all PyProof.Rows.boot_all (pa_cons
          (pe_lc (own := [("forme", 4)]) (g := gName 4) (tt := tYes) rfl scPl.nd (pi_list (pv 1)) (blkOk_by (by show blkC ["house", "formes", "can_stand", "least", "forme"] (defScope sPlan) _ [("forme", 4)] = true; decide +kernel))
            (fun s H C cl fp => by exact pg_name (i := 4) scPl.nd rfl (Or.inl rfl))
            (fun s H C cl fp => by exact pts_nil)
            (fun s H C cl fp => by exact pe_ix (ixK (K := K)) (pv 2) (pv 4) (fun _ _ => rfl))) pa_nil)))) (pss_one (ps_ret (pe_lst (pa_cons (pe_gint T.cCannot) pa_nil)))) pss_nil)
      (pss_cons (ps_set (i := 3) scPl.nd rfl (Or.inl rfl) (pe_g GL hr (pa_cons (pe_fld (pv 0) rfl) (pa_cons (pe_fld (pv 0) rfl) (pa_cons (pe_fld (pv 0) rfl) (pa_cons (pv 1) pa_nil))))))
      (pss_one (ps_ret (pe_op op_cat (pe_lst (pa_cons (pe_ix ix_tup (pv 3) pe_int (fun _ _ => rfl)) pa_nil)) (pe_ix ix_tup (pv 3) pe_int (fun _ _ => rfl)))))))), ?_⟩
    have es := step_plan s l
    unfold Sx07.step at es
    dsimp only at es
    refine ⟨_, rfl, an, _, rfl, .inl hn, _, _, rfl, rfl, _, rfl, ?_⟩
    rw [List.length_map]
    refine ite2 (fun h1 => ?_) (fun h1 => ?_)
    · have h1' : Sx07.FORMES < l.length := by
        show 8 < l.length
        have := of_decide_eq_true h1; omega
      rw [if_pos (Or.inl h1')] at es
      exact iteT ⟨(by show 1 ≤ sizeLine; decide), fun r hr => k.same hh es (same_new hr) hr upd_same⟩
    · have h8 : l.length ≤ 8 := by
        have : ¬ ((8 : Int) < (l.length : Int)) := fun z => h1 (decide_eq_true z)
        omega
      refine ⟨_, rfl, an, rfl, ⟨_, hn⟩, fun D hD => ?_⟩
      refine lc_listP (K := K) (a := an) (ea := fun (n : Nat) => V.int n) (as := l) (fun x => V.bl (Sx07.isMask s x)) hD hn (Nat.le_trans h8 (by decide)) ?_ ?_
      · intro x H4 R hx s4 k4
        have hh4 := hh.same s4
        exact k4 _ rfl fun Q q => ⟨_, rfl, hp, dx, _, rfl, s4 _ _ hi, hf_no_has .., _, rfl, hp, ac, ap, as, s, x, rfl, hh4, q⟩
      · intro H1 s1 h1
        refine ⟨D, l.map (fun x => Sx07.isMask s x), rfl, .of (by rw [h1, List.map_map]; rfl), _, rfl, ?_⟩
        have eall : (l.map (fun x => Sx07.isMask s x)).all id = l.all (Sx07.isMask s) := by rw [List.all_map]; rfl
        rw [eall]
        refine ite2 (fun h2 => ?_) (fun h2 => ?_)
        · rw [Bool.not_eq_true'] at h2
          rw [if_pos (Or.inr h2)] at es
          exact ⟨(by show 1 ≤ sizeLine; decide), fun r hr => k.same hh es (s1.trans (same_new hr)) (s1.free hr) upd_same⟩
        · rw [Bool.not_eq_true'] at h2
          have hor : ¬ (Sx07.FORMES < l.length ∨ l.all (Sx07.isMask s) = false) := fun z => z.elim (fun z => by have : (8 : Nat) < l.length := z; omega) h2
          rw [if_neg hor] at es
          have hlt : ∀ x ∈ l, x < 2 ^ s.pages.length := fun x hx => by
            rw [Bool.not_eq_false, List.all_eq_true] at h2
            exact of_decide_eq_true (h2 x hx)
          have hi1 := s1 _ _ hi
          have hh1 := hh.same s1
          refine ⟨_, rfl, hp, C, dx, _, _, rfl, hi1, T.cl, T.nCase, hf_case .., _, rfl, hp, C, dx, _, _, rfl, hi1, T.cl, T.nPages, hf_pages .., ac, ap, s.case_, as, s.pages, rfl, .of hh1.case_, hh1.pagesAt, g.like, g.letters, g.few, fun H2 r2 s2 n2 e2 => ?_⟩
          have s12 := s1.trans s2
          refine ⟨_, rfl, an, rfl, ⟨_, s12.seq hn⟩, fun D2 hD2 => ?_⟩
          refine lc_listP (K := K) (a := an) (ea := fun (n : Nat) => V.int n) (as := l) (fun x => V.bl (Sx07.fits s.case_ s.pages x)) hD2 (s12.seq hn) (Nat.le_trans h8 (by decide)) ?_ ?_
          · intro x H4 R hx s4 k4
            exact k4 _ rfl fun Q q => ⟨_, rfl, _, rfl, r2, _, _, _, rfl, rfl, .of (s4 _ _ e2), atI_bl (fitsL_get (hlt x hx)), q⟩
          · intro H3 s3 h3
            refine ⟨D2, l.map (fun x => Sx07.fits s.case_ s.pages x), rfl, .of (by rw [h3, List.map_map]; rfl), _, rfl, ?_⟩
            have eall2 : (l.map (fun x => Sx07.fits s.case_ s.pages x)).all id = l.all (Sx07.fits s.case_ s.pages) := by rw [List.all_map]; rfl
            rw [eall2]
            have s13 := s12.trans s3
            have hpn := plan_none_iff (case_ := s.case_) g.like g.mask hlt
            refine ite2 (fun h4 => ?_) (fun h4 => ?_)
            · rw [Bool.not_eq_true'] at h4
              have hex : ∃ f ∈ l, Sx07.fits s.case_ s.pages f = false := by
                rw [List.all_eq_false] at h4
                obtain ⟨x, hx, hx2⟩ := h4
                exact ⟨x, hx, by rw [← Bool.not_eq_true]; exact hx2⟩
              rw [hpn.mpr hex] at es
              exact ⟨(by show 1 ≤ sizeLine; decide), fun r hr => k.same hh es (s13.trans (same_new hr)) (s13.free hr) upd_same⟩
            · rw [Bool.not_eq_true', Bool.not_eq_false, List.all_eq_true] at h4
              have hfo : Formes s.case_ s.pages l := ⟨hlt, h4⟩
              rw [bestPlan_is g.like hfo g.mask] at es
              dsimp only at es
              have hi3 := s13 _ _ hi
              have hh3 := hh.same s13
              refine ⟨_, rfl, hp, C, dx, _, _, rfl, hi3, T.cl, T.nCase, hf_case .., _, rfl, hp, C, dx, _, _, rfl, hi3, T.cl, T.nPages, hf_pages .., _, rfl, hp, C, dx, _, _, rfl, hi3, T.cl, T.nStanding, hf_standing .., _, rfl, ac, ap, an, s.standing, s.case_, l, as, s.pages, rfl, .of hh3.case_, hh3.pagesAt, g.like, g.letters, g.few, g.mask, s13.seq hn, h8, hfo, fun H5 b am s5 e5 e6 => ?_⟩
              have hrl := ((plan_iff g.mask).mp (bestPlan_is g.like hfo g.mask)).mem.1
              have hml : (bestPlan s.case_ s.pages l s.standing).2.length ≤ 8 := by rw [run_length hrl]; exact h8
              generalize bestPlan s.case_ s.pages l s.standing = bp at *
              refine ⟨_, rfl, b, _, _, _, rfl, rfl, .of e5, (show atI [V.int (bp.1 : Nat), V.ref am] 0 = some (V.int (bp.1 : Nat)) from rfl), (by show 1 ≤ sizeLine; decide), fun p1 m1 => ?_⟩
              have s6 := same_new (o := .lst [V.int (bp.1 : Nat)]) m1
              refine ⟨_, rfl, b, _, _, _, rfl, rfl, .of (s6 _ _ e5), (show atI [V.int (bp.1 : Nat), V.ref am] 1 = some (V.ref am) from rfl), p1, am, _, _, rfl, rfl, upd_same, s6 _ _ e6, ?_, fun r hr => ?_⟩
              · rw [List.length_map]; show 1 + bp.2.length ≤ sizeLine; exact Nat.le_trans (by omega) line1000
              · refine k.same hh es (s13.trans (s5.trans (s6.trans (same_new hr)))) (s13.free (s5.free (s6.free hr))) ?_
                rw [upd_same]
                show _ = some (HO.lst (V.int _ :: (Sx07.ints bp.2).map V.int))
                rw [ints_vN]; rfl
end
end TC
end
section
set_option Elab.async false
set_option linter.all false
set_option maxRecDepth 100000
set_option maxHeartbeats 2000000
namespace TC
open PySem PySem.Spec PyProof.Rows L2
open PySem.W (Codec)
def FnAt (K : PySem.W.Frag) (x qual : Str) (st : Stmt) (f : Addr) : Prop := ∃ fd, Fun K x qual st f fd
theorem fnAt_mk {K : PySem.W.Frag} {x qual : Str} {st : Stmt} {f : Addr} {oc : Value} {od an : Option Addr} {osl : Array (Option Value)} {kV doc pm cdv ct : Value} (l : K.lookup f = some ⟨oc, od, .func (PySem.W.fnOf x qual (defArgs st) (defBody st) (defScope st) .none kV doc pm an cdv ct), osl⟩)
    (c : PySem.W.codeIn K cdv qual = true) (k : PySem.W.keepIn K (.ref f) = true) : FnAt K x qual st f := ⟨_, fun_mk l c k⟩
theorem all_mk {P : Program} {w : World} {K : PySem.W.Frag} {h : Heap} {mg : Str → Option Value} {fa C fI fS fH fN fAd fMo fW fL fLk fK fBi fWB fCa fIF fFu fNx fAl fFe fFi fCh fCt fBb fLp fB fP fY fSt fBk fLf fFt fFs fTu fBo fPl fSp fA aT : Addr} {t1 t2 t3 t4 t5 t6 t7 t8 t9 : Tok} {oT : Option Addr} {nT : Nat} {sT : Array (Option Value)}
    (X : K.In h) (G : h.Ns mainGlobals mg) (hfa : mg "answers" = some (.ref fa))
    (aC : PySem.W.nsIn K mainGlobals "House" = some (some (.ref C)))
    (aI : PySem.W.findIn K (.ref C) "__init__" = some (some (.ref fI))) (iI : PySem.W.isFn K (.ref fI) = true) (dI : FnAt K "__init__" "House.__init__" sInit fI)
    (aS : PySem.W.findIn K (.ref C) "stands" = some (some (.ref fS))) (iS : PySem.W.isFn K (.ref fS) = true) (dS : FnAt K "stands" "House.stands" sStands fS)
    (aH : PySem.W.findIn K (.ref C) "has_pages" = some (some (.ref fH))) (iH : PySem.W.isFn K (.ref fH) = true) (dH : FnAt K "has_pages" "House.has_pages" sHas fH)
    (aN : PySem.W.findIn K (.ref C) "now_left" = some (some (.ref fN))) (iN : PySem.W.isFn K (.ref fN) = true) (dN : FnAt K "now_left" "House.now_left" sNow fN)
    (aAd : PySem.W.nsIn K mainGlobals "added" = some (some (.ref fAd))) (dAd : FnAt K "added" "added" sAdded fAd)
    (aMo : PySem.W.nsIn K mainGlobals "most_of_each" = some (some (.ref fMo))) (dMo : FnAt K "most_of_each" "most_of_each" sMost fMo)
    (aW : PySem.W.nsIn K mainGlobals "wanted_together" = some (some (.ref fW))) (dW : FnAt K "wanted_together" "wanted_together" sWant fW)
    (aL : PySem.W.nsIn K mainGlobals "left_of_each" = some (some (.ref fL))) (dL : FnAt K "left_of_each" "left_of_each" sLeftEach fL)
    (aLk : PySem.W.nsIn K mainGlobals "lacking_of_each" = some (some (.ref fLk))) (dLk : FnAt K "lacking_of_each" "lacking_of_each" sLacking fLk)
    (aK : PySem.W.nsIn K mainGlobals "first_lacking" = some (some (.ref fK))) (dK : FnAt K "first_lacking" "first_lacking" sLack fK)
    (aBi : PySem.W.nsIn K mainGlobals "bits_of" = some (some (.ref fBi))) (dBi : FnAt K "bits_of" "bits_of" sBits fBi)
    (aWB : PySem.W.nsIn K mainGlobals "wanted_by_mask" = some (some (.ref fWB))) (dWB : FnAt K "wanted_by_mask" "wanted_by_mask" sWantBy fWB)
    (aCa : PySem.W.nsIn K mainGlobals "can_stand_by_mask" = some (some (.ref fCa))) (dCa : FnAt K "can_stand_by_mask" "can_stand_by_mask" sCan fCa)
    (aIF : PySem.W.nsIn K mainGlobals "is_fullest" = some (some (.ref fIF))) (dIF : FnAt K "is_fullest" "is_fullest" sIsFull fIF)
    (aFu : PySem.W.nsIn K mainGlobals "fullest_masks" = some (some (.ref fFu))) (dFu : FnAt K "fullest_masks" "fullest_masks" sFull fFu)
    (aNx : PySem.W.nsIn K mainGlobals "next_parts" = some (some (.ref fNx))) (dNx : FnAt K "next_parts" "next_parts" sNext fNx)
    (aAl : PySem.W.nsIn K mainGlobals "each_stands_alone" = some (some (.ref fAl))) (dAl : FnAt K "each_stands_alone" "each_stands_alone" sAlone fAl)
    (aFe : PySem.W.nsIn K mainGlobals "fewest_parts_by_mask" = some (some (.ref fFe))) (dFe : FnAt K "fewest_parts_by_mask" "fewest_parts_by_mask" sFewest fFe)
    (aFi : PySem.W.nsIn K mainGlobals "first_fewest_row" = some (some (.ref fFi))) (dFi : FnAt K "first_fewest_row" "first_fewest_row" sFirst fFi)
    (aCh : PySem.W.nsIn K mainGlobals "cheaper_row" = some (some (.ref fCh))) (dCh : FnAt K "cheaper_row" "cheaper_row" sCheaper fCh)
    (aCt : PySem.W.nsIn K mainGlobals "first_cheapest_row" = some (some (.ref fCt))) (dCt : FnAt K "first_cheapest_row" "first_cheapest_row" sCheapest fCt)
    (aBb : PySem.W.nsIn K mainGlobals "best_by_mask_before" = some (some (.ref fBb))) (dBb : FnAt K "best_by_mask_before" "best_by_mask_before" sBestBy fBb)
    (aLp : PySem.W.nsIn K mainGlobals "least_plan" = some (some (.ref fLp))) (dLp : FnAt K "least_plan" "least_plan" sLeast fLp)
    (aB : PySem.W.nsIn K mainGlobals "begins" = some (some (.ref fB))) (dB : FnAt K "begins" "begins" sBegins fB)
    (aP : PySem.W.nsIn K mainGlobals "page" = some (some (.ref fP))) (dP : FnAt K "page" "page" sPage fP)
    (aY : PySem.W.nsIn K mainGlobals "buy" = some (some (.ref fY))) (dY : FnAt K "buy" "buy" sBuy fY)
    (aSt : PySem.W.nsIn K mainGlobals "set_page" = some (some (.ref fSt))) (dSt : FnAt K "set_page" "set_page" sSet fSt)
    (aBk : PySem.W.nsIn K mainGlobals "back" = some (some (.ref fBk))) (dBk : FnAt K "back" "back" sBack fBk)
    (aLf : PySem.W.nsIn K mainGlobals "left" = some (some (.ref fLf))) (dLf : FnAt K "left" "left" sLeft fLf)
    (aFt : PySem.W.nsIn K mainGlobals "fits" = some (some (.ref fFt))) (dFt : FnAt K "fits" "fits" sFits fFt)
    (aFs : PySem.W.nsIn K mainGlobals "fullest" = some (some (.ref fFs))) (dFs : FnAt K "fullest" "fullest" sFullest fFs)
    (aTu : PySem.W.nsIn K mainGlobals "turns" = some (some (.ref fTu))) (dTu : FnAt K "turns" "turns" sTurns fTu)
    (aBo : PySem.W.nsIn K mainGlobals "bought" = some (some (.ref fBo))) (dBo : FnAt K "bought" "bought" sBought fBo)
    (aPl : PySem.W.nsIn K mainGlobals "plan" = some (some (.ref fPl))) (dPl : FnAt K "plan" "plan" sPlan fPl)
    (aSp : PySem.W.nsIn K mainGlobals "split_calls" = some (some (.ref fSp))) (dSp : FnAt K "split_calls" "split_calls" sSplit fSp)
    (aA : PySem.W.nsIn K mainGlobals "answers" = some (some (.ref fA))) (dA : FnAt K "answers" "answers" sAns fA)
    (aT' : PySem.W.nsIn K mainGlobals "CALLS" = some (some (.ref aT))) (lT : K.lookup aT = some ⟨.type "tuple", oT, .seq #[.ref fB, .ref fP, .ref fY, .ref fSt, .ref fBk, .ref fLf, .ref fFt, .ref fFs, .ref fTu, .ref fBo, .ref fPl] nT, sT⟩)
    (c1 : PySem.W.nsIn K mainGlobals "MOST_LETTERS" = some (some (.int 32 t1)))
    (c2 : PySem.W.nsIn K mainGlobals "MOST_OF_A_LETTER" = some (some (.int 65535 t2)))
    (c3 : PySem.W.nsIn K mainGlobals "MOST_PAGES" = some (some (.int 8 t3)))
    (c4 : PySem.W.nsIn K mainGlobals "MOST_FORMES" = some (some (.int 8 t4)))
    (c5 : PySem.W.nsIn K mainGlobals "WRONG_LETTERS" = some (some (.int (-1) t5)))
    (c6 : PySem.W.nsIn K mainGlobals "NO_SUCH" = some (some (.int (-2) t6)))
    (c7 : PySem.W.nsIn K mainGlobals "ALREADY_SO" = some (some (.int (-3) t7)))
    (c8 : PySem.W.nsIn K mainGlobals "CANNOT_STAND" = some (some (.int (-4) t8)))
    (c9 : PySem.W.nsIn K mainGlobals "TOO_MANY" = some (some (.int (-5) t9)))
    (z1 : PySem.W.nsIn K mainGlobals "len" = some none)
    (z2 : PySem.W.nsIn K mainGlobals "enumerate" = some none)
    (z3 : PySem.W.nsIn K mainGlobals "zip" = some none)
    (z4 : PySem.W.nsIn K mainGlobals "range" = some none)
    (z5 : PySem.W.nsIn K mainGlobals "max" = some none)
    (z6 : PySem.W.nsIn K mainGlobals "sum" = some none)
    (z7 : PySem.W.nsIn K mainGlobals "list" = some none)
    (z8 : PySem.W.nsIn K mainGlobals "min" = some none)
    (z9 : PySem.W.nsIn K mainGlobals "any" = some none)
    (z10 : PySem.W.nsIn K mainGlobals "all" = some none)
    (z11 : PySem.W.nsIn K mainGlobals "reversed" = some none)
    (pg : PySem.W.plainGet K C Str.empty = true) (hd : PySem.W.hasDictIn K C = true) (po : PySem.W.plainOver K C = true) (sa : PySem.W.findIn K (.ref C) "__setattr__" = some (some (.builtin "object.__setattr__"))) (mk : PySem.W.makesIn K C = true) (kc : PySem.W.keepIn K (.ref C) = true)
    (n1 : PySem.W.findIn K (.ref C) "case" = some none) (n2 : PySem.W.findIn K (.ref C) "pages" = some none) (n3 : PySem.W.findIn K (.ref C) "standing" = some none) (n4 : PySem.W.findIn K (.ref C) "set_so_far" = some none) :
    ∃ fd : FuncData, (∀ (s : Shared) (us : List Value), us.length = (["calls"] : List Str).length → BindsTo s fd ⟨us, []⟩ ((["calls"] : List Str).zip us)) ∧ ∀ base : Heap, K.In base → base.Ns mainGlobals mg → FnOk P w K mg base CX0 15 fa fd ["calls"] (spAns K) := by
  have e := hfa.symm.trans (PySem.W.mg_of X G aA)
  cases e
  have T : Txt K mg C := ⟨⟨pg, hd, po, sa⟩, n1, n2, n3, n4, PySem.W.mg_of X G aC, PySem.W.mg_none_of X G z1, PySem.W.mg_none_of X G z2, PySem.W.mg_none_of X G z3, PySem.W.mg_none_of X G z4, PySem.W.mg_none_of X G z5, PySem.W.mg_none_of X G z6, PySem.W.mg_none_of X G z7, PySem.W.mg_none_of X G z8, PySem.W.mg_none_of X G z9, PySem.W.mg_none_of X G z10, PySem.W.mg_none_of X G z11,
    ⟨_, PySem.W.mg_of X G c1⟩, ⟨_, PySem.W.mg_of X G c2⟩, ⟨_, PySem.W.mg_of X G c3⟩, ⟨_, PySem.W.mg_of X G c4⟩, ⟨_, PySem.W.mg_of X G c5⟩, ⟨_, PySem.W.mg_of X G c6⟩, ⟨_, PySem.W.mg_of X G c7⟩, ⟨_, PySem.W.mg_of X G c8⟩, ⟨_, PySem.W.mg_of X G c9⟩⟩
  obtain ⟨fdI, FI⟩ := dI
  obtain ⟨fdS, FS⟩ := dS
  obtain ⟨fdH, FH⟩ := dH
  obtain ⟨fdN, FN⟩ := dN
  obtain ⟨fdAd, FAd⟩ := dAd
  obtain ⟨fdMo, FMo⟩ := dMo
  obtain ⟨fdW, FW⟩ := dW
  obtain ⟨fdL, FL⟩ := dL
  obtain ⟨fdLk, FLk⟩ := dLk
  obtain ⟨fdK, FK⟩ := dK
  obtain ⟨fdBi, FBi⟩ := dBi
  obtain ⟨fdWB, FWB⟩ := dWB
  obtain ⟨fdCa, FCa⟩ := dCa
  obtain ⟨fdIF, FIF⟩ := dIF
  obtain ⟨fdFu, FFu⟩ := dFu
  obtain ⟨fdNx, FNx⟩ := dNx
  obtain ⟨fdAl, FAl⟩ := dAl
  obtain ⟨fdFe, FFe⟩ := dFe
  obtain ⟨fdFi, FFi⟩ := dFi
  obtain ⟨fdCh, FCh⟩ := dCh
  obtain ⟨fdCt, FCt⟩ := dCt
  obtain ⟨fdBb, FBb⟩ := dBb
  obtain ⟨fdLp, FLp⟩ := dLp
  obtain ⟨fdB, FB⟩ := dB
  obtain ⟨fdP, FP⟩ := dP
  obtain ⟨fdY, FY⟩ := dY
  obtain ⟨fdSt, FSt⟩ := dSt
  obtain ⟨fdBk, FBk⟩ := dBk
  obtain ⟨fdLf, FLf⟩ := dLf
  obtain ⟨fdFt, FFt⟩ := dFt
  obtain ⟨fdFs, FFs⟩ := dFs
  obtain ⟨fdTu, FTu⟩ := dTu
  obtain ⟨fdBo, FBo⟩ := dBo
  obtain ⟨fdPl, FPl⟩ := dPl
  obtain ⟨fdSp, FSp⟩ := dSp
  obtain ⟨fdA, FA⟩ := dA
  have bI := FI.binds (ps := ["self"]) fun _ _ _ _ _ _ us hl => match us, hl with | [_], _ => rfl
  have bS := FS.binds (ps := ["self", "number"]) fun _ _ _ _ _ _ us hl => match us, hl with | [_, _], _ => rfl
  have bH := FH.binds (ps := ["self", "mask"]) fun _ _ _ _ _ _ us hl => match us, hl with | [_, _], _ => rfl
  have bN := FN.binds (ps := ["self"]) fun _ _ _ _ _ _ us hl => match us, hl with | [_], _ => rfl
  have bAd := FAd.binds (ps := ["some", "more"]) fun _ _ _ _ _ _ us hl => match us, hl with | [_, _], _ => rfl
  have bMo := FMo.binds (ps := ["some", "others"]) fun _ _ _ _ _ _ us hl => match us, hl with | [_, _], _ => rfl
  have bW := FW.binds (ps := ["case", "pages", "mask"]) fun _ _ _ _ _ _ us hl => match us, hl with | [_, _, _], _ => rfl
  have bL := FL.binds (ps := ["case", "pages", "standing"]) fun _ _ _ _ _ _ us hl => match us, hl with | [_, _, _], _ => rfl
  have bLk := FLk.binds (ps := ["case", "wanted"]) fun _ _ _ _ _ _ us hl => match us, hl with | [_, _], _ => rfl
  have bK := FK.binds (ps := ["left", "wants"]) fun _ _ _ _ _ _ us hl => match us, hl with | [_, _], _ => rfl
  have bBi := FBi.binds (ps := ["mask"]) fun _ _ _ _ _ _ us hl => match us, hl with | [_], _ => rfl
  have bWB := FWB.binds (ps := ["case", "pages"]) fun _ _ _ _ _ _ us hl => match us, hl with | [_, _], _ => rfl
  have bCa := FCa.binds (ps := ["case", "pages"]) fun _ _ _ _ _ _ us hl => match us, hl with | [_, _], _ => rfl
  have bIF := FIF.binds (ps := ["can_stand", "mask"]) fun _ _ _ _ _ _ us hl => match us, hl with | [_, _], _ => rfl
  have bFu := FFu.binds (ps := ["can_stand"]) fun _ _ _ _ _ _ us hl => match us, hl with | [_], _ => rfl
  have bNx := FNx.binds (ps := ["rest"]) fun _ _ _ _ _ _ us hl => match us, hl with | [_], _ => rfl
  have bAl := FAl.binds (ps := ["can_stand"]) fun _ _ _ _ _ _ us hl => match us, hl with | [_], _ => rfl
  have bFe := FFe.binds (ps := ["can_stand"]) fun _ _ _ _ _ _ us hl => match us, hl with | [_], _ => rfl
  have bFi := FFi.binds (ps := ["can_stand"]) fun _ _ _ _ _ _ us hl => match us, hl with | [_], _ => rfl
  have bCh := FCh.binds (ps := ["lacking", "rest", "turns", "each", "row", "best"]) fun _ _ _ _ _ _ us hl => match us, hl with | [_, _, _, _, _, _], _ => rfl
  have bCt := FCt.binds (ps := ["case", "pages", "turns"]) fun _ _ _ _ _ _ us hl => match us, hl with | [_, _, _], _ => rfl
  have bBb := FBb.binds (ps := ["can_stand", "forme", "yet"]) fun _ _ _ _ _ _ us hl => match us, hl with | [_, _, _], _ => rfl
  have bLp := FLp.binds (ps := ["case", "pages", "standing", "formes"]) fun _ _ _ _ _ _ us hl => match us, hl with | [_, _, _, _], _ => rfl
  have bB := FB.binds (ps := ["house", "letters"]) fun _ _ _ _ _ _ us hl => match us, hl with | [_, _], _ => rfl
  have bP := FP.binds (ps := ["house", "letters"]) fun _ _ _ _ _ _ us hl => match us, hl with | [_, _], _ => rfl
  have bY := FY.binds (ps := ["house", "numbers"]) fun _ _ _ _ _ _ us hl => match us, hl with | [_, _], _ => rfl
  have bSt := FSt.binds (ps := ["house", "numbers"]) fun _ _ _ _ _ _ us hl => match us, hl with | [_, _], _ => rfl
  have bBk := FBk.binds (ps := ["house", "numbers"]) fun _ _ _ _ _ _ us hl => match us, hl with | [_, _], _ => rfl
  have bLf := FLf.binds (ps := ["house", "numbers"]) fun _ _ _ _ _ _ us hl => match us, hl with | [_, _], _ => rfl
  have bFt := FFt.binds (ps := ["house", "numbers"]) fun _ _ _ _ _ _ us hl => match us, hl with | [_, _], _ => rfl
  have bFs := FFs.binds (ps := ["house", "numbers"]) fun _ _ _ _ _ _ us hl => match us, hl with | [_, _], _ => rfl
  have bTu := FTu.binds (ps := ["house", "numbers"]) fun _ _ _ _ _ _ us hl => match us, hl with | [_, _], _ => rfl
  have bBo := FBo.binds (ps := ["house", "numbers"]) fun _ _ _ _ _ _ us hl => match us, hl with | [_, _], _ => rfl
  have bPl := FPl.binds (ps := ["house", "formes"]) fun _ _ _ _ _ _ us hl => match us, hl with | [_, _], _ => rfl
  have bSp := FSp.binds (ps := ["calls"]) fun _ _ _ _ _ _ us hl => match us, hl with | [_], _ => rfl
  refine ⟨fdA, ?_, fun base kb nb => ?_⟩
  · obtain ⟨oc, od, kV, doc, pm, an, cdv, ct, osl, rfl, lk, hcd⟩ := FA.ex
    exact fun s us hu => match us, hu with | [_], _ => .of_eq rfl
  · have GAd : Glob P w K mg base "added" 1 fAd fdAd ["some", "more"] (spZip K fun x y => x + y) := ⟨ok_added FAd T, PySem.W.mg_of X G aAd, FAd.kp, bAd⟩
    have GMo : Glob P w K mg base "most_of_each" 1 fMo fdMo ["some", "others"] (spZip K fun x y => max x y) := ⟨ok_most FMo T, PySem.W.mg_of X G aMo, FMo.kp, bMo⟩
    have GW : Glob P w K mg base "wanted_together" 2 fW fdW ["case", "pages", "mask"] (spWant K) := ⟨ok_want FW T GAd, PySem.W.mg_of X G aW, FW.kp, bW⟩
    have GL : Glob P w K mg base "left_of_each" 3 fL fdL ["case", "pages", "standing"] (spLeftEach K) := ⟨ok_leftEach FL T GW, PySem.W.mg_of X G aL, FL.kp, bL⟩
    have GLk : Glob P w K mg base "lacking_of_each" 1 fLk fdLk ["case", "wanted"] (spZip K fun h w => w - h) := ⟨ok_lacking FLk T, PySem.W.mg_of X G aLk, FLk.kp, bLk⟩
    have GK : Glob P w K mg base "first_lacking" 1 fK fdK ["left", "wants"] (spLack K) := ⟨ok_lack FK T, PySem.W.mg_of X G aK, FK.kp, bK⟩
    have GBi : Glob P w K mg base "bits_of" 1 fBi fdBi ["mask"] spBits := ⟨ok_bits FBi T, PySem.W.mg_of X G aBi, FBi.kp, bBi⟩
    have GWB : Glob P w K mg base "wanted_by_mask" 2 fWB fdWB ["case", "pages"] (spWantBy K) := ⟨ok_wantBy FWB T GAd, PySem.W.mg_of X G aWB, FWB.kp, bWB⟩
    have GCa : Glob P w K mg base "can_stand_by_mask" 3 fCa fdCa ["case", "pages"] (spCan K) := ⟨ok_can FCa T GWB GK, PySem.W.mg_of X G aCa, FCa.kp, bCa⟩
    have GIF : Glob P w K mg base "is_fullest" 2 fIF fdIF ["can_stand", "mask"] (spIsFull K) := ⟨ok_isFull FIF T GBi, PySem.W.mg_of X G aIF, FIF.kp, bIF⟩
    have GFu : Glob P w K mg base "fullest_masks" 3 fFu fdFu ["can_stand"] (spFull K) := ⟨ok_full FFu T GIF, PySem.W.mg_of X G aFu, FFu.kp, bFu⟩
    have GNx : Glob P w K mg base "next_parts" 2 fNx fdNx ["rest"] spNext := ⟨ok_next FNx T GBi, PySem.W.mg_of X G aNx, FNx.kp, bNx⟩
    have GAl : Glob P w K mg base "each_stands_alone" 2 fAl fdAl ["can_stand"] (spAlone K) := ⟨ok_alone FAl T GBi, PySem.W.mg_of X G aAl, FAl.kp, bAl⟩
    have GFe : Glob P w K mg base "fewest_parts_by_mask" 3 fFe fdFe ["can_stand"] (spFewest K) := ⟨ok_fewest FFe T GNx, PySem.W.mg_of X G aFe, FFe.kp, bFe⟩
    have GFi : Glob P w K mg base "first_fewest_row" 4 fFi fdFi ["can_stand"] (spFirst K) := ⟨ok_first FFi T GNx GFe, PySem.W.mg_of X G aFi, FFi.kp, bFi⟩
    have GCh : Glob P w K mg base "cheaper_row" 11 fCh fdCh ["lacking", "rest", "turns", "each", "row", "best"] (spCheaper K 9) := ⟨ok_cheaper FCh T (PySem.W.mg_of X G aCh) bCh GNx GMo 9, PySem.W.mg_of X G aCh, FCh.kp, bCh⟩
    have GCt : Glob P w K mg base "first_cheapest_row" 12 fCt fdCt ["case", "pages", "turns"] (spCheapest K) := ⟨ok_cheapest FCt T GWB GLk GCh, PySem.W.mg_of X G aCt, FCt.kp, bCt⟩
    have GBb : Glob P w K mg base "best_by_mask_before" 2 fBb fdBb ["can_stand", "forme", "yet"] (spBest K) := ⟨ok_best FBb T GBi, PySem.W.mg_of X G aBb, FBb.kp, bBb⟩
    have GLp : Glob P w K mg base "least_plan" 4 fLp fdLp ["case", "pages", "standing", "formes"] (spLeast K) := ⟨ok_least FLp T GCa GWB GBb, PySem.W.mg_of X G aLp, FLp.kp, bLp⟩
    have GSp : Glob P w K mg base "split_calls" 1 fSp fdSp ["calls"] (spSplit K) := ⟨ok_split FSp T, PySem.W.mg_of X G aSp, FSp.kp, bSp⟩
    have GS : FnOk P w K mg base CX0 1 fS fdS ["self", "number"] (spStands C) := ok_stands FS T
    have GH : FnOk P w K mg base CX0 1 fH fdH ["self", "mask"] (spHas K C) := ok_has FH T
    have GN : FnOk P w K mg base CX0 4 fN fdN ["self"] (spNow K C) := ok_now FN T GL
    have mS : Meth K C "stands" fS := ⟨aS, iS, FS.kp⟩
    have mH : Meth K C "has_pages" fH := ⟨aH, iH, FH.kp⟩
    have mN : Meth K C "now_left" fN := ⟨aN, iN, FN.kp⟩
    have GT : Table P w K mg base C 14 [fB, fP, fY, fSt, fBk, fLf, fFt, fFs, fTu, fBo, fPl] := by
      refine ⟨⟨aT, PySem.W.mg_of X G aT', fun H => .inr ⟨_, _, nT, lT, rfl, rfl, (by show 11 ≤ sizeLine; decide), .cons rfl (.cons rfl (.cons rfl (.cons rfl (.cons rfl (.cons rfl (.cons rfl (.cons rfl (.cons rfl (.cons rfl (.cons rfl .nil))))))))))⟩⟩, fun i f hf => ?_⟩
      match i, hf with
      | 0, hf => cases hf; exact ⟨⟨1, fdB, _, by decide, ok_begins FB T, bB⟩, FB.kp⟩
      | 1, hf => cases hf; exact ⟨⟨1, fdP, _, by decide, ok_page FP T, bP⟩, FP.kp⟩
      | 2, hf => cases hf; exact ⟨⟨1, fdY, _, by decide, ok_buy FY T, bY⟩, FY.kp⟩
      | 3, hf => cases hf; exact ⟨⟨5, fdSt, _, by decide, ok_set FSt T GS bS mS GN bN mN GK, bSt⟩, FSt.kp⟩
      | 4, hf => cases hf; exact ⟨⟨2, fdBk, _, by decide, ok_back FBk T GS bS mS, bBk⟩, FBk.kp⟩
      | 5, hf => cases hf; exact ⟨⟨5, fdLf, _, by decide, ok_left FLf T GN bN mN, bLf⟩, FLf.kp⟩
      | 6, hf => cases hf; exact ⟨⟨3, fdFt, _, by decide, ok_fits FFt T GH bH mH GW GLk, bFt⟩, FFt.kp⟩
      | 7, hf => cases hf; exact ⟨⟨4, fdFs, _, by decide, ok_fullest FFs T GCa GFu, bFs⟩, FFs.kp⟩
      | 8, hf => cases hf; exact ⟨⟨5, fdTu, _, by decide, ok_turns FTu T GCa GAl GFi, bTu⟩, FTu.kp⟩
      | 9, hf => cases hf; exact ⟨⟨13, fdBo, _, by decide, ok_bought FBo T GCt, bBo⟩, FBo.kp⟩
      | 10, hf => cases hf; exact ⟨⟨5, fdPl, _, by decide, ok_plan FPl T GH bH mH GCa GLp, bPl⟩, FPl.kp⟩
      | i + 11, hf => simp at hf
    exact ok_ans FA T ⟨mk, aI, iI, kc⟩ FI bI GSp GT fun x hx => by have := hx.place; show x.1.toNat < 11; omega
end TC
open PySem PySem.W PyProof.Rows
set_option maxRecDepth 100000 in
set_option maxHeartbeats 0 in
theorem PySem.Challenge.cw_typecase_s01_answers_holds : PySem.Challenge.rw_typecase_s01_answers.Holds := by
  w_on; k_headS; (case hw => exact ⟨[.list [.int 5, .int 0, .int 0]], by decide +kernel, by decide +kernel⟩)
  k_fillS
  refine L2.walk_specK (r := PySem.Challenge.rw_typecase_s01_answers) (k := 15) (CX := L2.CX0) (ps := ["calls"]) (sp := TC.spAns) (by decide +kernel) rfl rfl ⟨rfl, by decide, by decide⟩ (fun w h Y => PySem.W.kIn_of Y) ?F ?S (fun _ _ _ _ z => z)
  case F =>
    intro w mg fa h Y KX G hmg
    refine' TC.all_mk KX G hmg ?aC ?aI ?iI ?dI ?aS ?iS ?dS ?aH ?iH ?dH ?aN ?iN ?dN ?aAd ?dAd ?aMo ?dMo ?aW ?dW ?aL ?dL ?aLk ?dLk ?aK ?dK ?aBi ?dBi ?aWB ?dWB ?aCa ?dCa ?aIF ?dIF ?aFu ?dFu ?aNx ?dNx ?aAl ?dAl ?aFe ?dFe ?aFi ?dFi ?aCh ?dCh ?aCt ?dCt ?aBb ?dBb ?aLp ?dLp ?aB ?dB ?aP ?dP ?aY ?dY ?aSt ?dSt ?aBk ?dBk ?aLf ?dLf ?aFt ?dFt ?aFs ?dFs ?aTu ?dTu ?aBo ?dBo ?aPl ?dPl ?aSp ?dSp ?aA ?dA ?aT ?lT ?c1 ?c2 ?c3 ?c4 ?c5 ?c6 ?c7 ?c8 ?c9 ?z1 ?z2 ?z3 ?z4 ?z5 ?z6 ?z7 ?z8 ?z9 ?z10 ?z11 ?pg ?hd ?po ?sa ?mk ?kc ?n1 ?n2 ?n3 ?n4
    (case aC => k_is)
    (case aI => k_is)
    (case iI => k_is)
    (case dI => refine' TC.fnAt_mk ?l ?c ?k; (case l => k_is); (case c => k_is); (case k => k_is))
    (case aS => k_is)
    (case iS => k_is)
    (case dS => refine' TC.fnAt_mk ?l ?c ?k; (case l => k_is); (case c => k_is); (case k => k_is))
    (case aH => k_is)
    (case iH => k_is)
    (case dH => refine' TC.fnAt_mk ?l ?c ?k; (case l => k_is); (case c => k_is); (case k => k_is))
    (case aN => k_is)
    (case iN => k_is)
    (case dN => refine' TC.fnAt_mk ?l ?c ?k; (case l => k_is); (case c => k_is); (case k => k_is))
    (case aAd => k_is)
    (case dAd => refine' TC.fnAt_mk ?l ?c ?k; (case l => k_is); (case c => k_is); (case k => k_is))
    (case aMo => k_is)
    (case dMo => refine' TC.fnAt_mk ?l ?c ?k; (case l => k_is); (case c => k_is); (case k => k_is))
    (case aW => k_is)
    (case dW => refine' TC.fnAt_mk ?l ?c ?k; (case l => k_is); (case c => k_is); (case k => k_is))
    (case aL => k_is)
    (case dL => refine' TC.fnAt_mk ?l ?c ?k; (case l => k_is); (case c => k_is); (case k => k_is))
    (case aLk => k_is)
    (case dLk => refine' TC.fnAt_mk ?l ?c ?k; (case l => k_is); (case c => k_is); (case k => k_is))
    (case aK => k_is)
    (case dK => refine' TC.fnAt_mk ?l ?c ?k; (case l => k_is); (case c => k_is); (case k => k_is))
    (case aBi => k_is)
    (case dBi => refine' TC.fnAt_mk ?l ?c ?k; (case l => k_is); (case c => k_is); (case k => k_is))
    (case aWB => k_is)
    (case dWB => refine' TC.fnAt_mk ?l ?c ?k; (case l => k_is); (case c => k_is); (case k => k_is))
    (case aCa => k_is)
    (case dCa => refine' TC.fnAt_mk ?l ?c ?k; (case l => k_is); (case c => k_is); (case k => k_is))
    (case aIF => k_is)
    (case dIF => refine' TC.fnAt_mk ?l ?c ?k; (case l => k_is); (case c => k_is); (case k => k_is))
    (case aFu => k_is)
    (case dFu => refine' TC.fnAt_mk ?l ?c ?k; (case l => k_is); (case c => k_is); (case k => k_is))
    (case aNx => k_is)
    (case dNx => refine' TC.fnAt_mk ?l ?c ?k; (case l => k_is); (case c => k_is); (case k => k_is))
    (case aAl => k_is)
    (case dAl => refine' TC.fnAt_mk ?l ?c ?k; (case l => k_is); (case c => k_is); (case k => k_is))
    (case aFe => k_is)
    (case dFe => refine' TC.fnAt_mk ?l ?c ?k; (case l => k_is); (case c => k_is); (case k => k_is))
    (case aFi => k_is)
    (case dFi => refine' TC.fnAt_mk ?l ?c ?k; (case l => k_is); (case c => k_is); (case k => k_is))
    (case aCh => k_is)
    (case dCh => refine' TC.fnAt_mk ?l ?c ?k; (case l => k_is); (case c => k_is); (case k => k_is))
    (case aCt => k_is)
    (case dCt => refine' TC.fnAt_mk ?l ?c ?k; (case l => k_is); (case c => k_is); (case k => k_is))
    (case aBb => k_is)
    (case dBb => refine' TC.fnAt_mk ?l ?c ?k; (case l => k_is); (case c => k_is); (case k => k_is))
    (case aLp => k_is)
    (case dLp => refine' TC.fnAt_mk ?l ?c ?k; (case l => k_is); (case c => k_is); (case k => k_is))
    (case aB => k_is)
    (case dB => refine' TC.fnAt_mk ?l ?c ?k; (case l => k_is); (case c => k_is); (case k => k_is))
    (case aP => k_is)
    (case dP => refine' TC.fnAt_mk ?l ?c ?k; (case l => k_is); (case c => k_is); (case k => k_is))
    (case aY => k_is)
    (case dY => refine' TC.fnAt_mk ?l ?c ?k; (case l => k_is); (case c => k_is); (case k => k_is))
    (case aSt => k_is)
    (case dSt => refine' TC.fnAt_mk ?l ?c ?k; (case l => k_is); (case c => k_is); (case k => k_is))
    (case aBk => k_is)
    (case dBk => refine' TC.fnAt_mk ?l ?c ?k; (case l => k_is); (case c => k_is); (case k => k_is))
    (case aLf => k_is)
    (case dLf => refine' TC.fnAt_mk ?l ?c ?k; (case l => k_is); (case c => k_is); (case k => k_is))
    (case aFt => k_is)
    (case dFt => refine' TC.fnAt_mk ?l ?c ?k; (case l => k_is); (case c => k_is); (case k => k_is))
    (case aFs => k_is)
    (case dFs => refine' TC.fnAt_mk ?l ?c ?k; (case l => k_is); (case c => k_is); (case k => k_is))
    (case aTu => k_is)
    (case dTu => refine' TC.fnAt_mk ?l ?c ?k; (case l => k_is); (case c => k_is); (case k => k_is))
    (case aBo => k_is)
    (case dBo => refine' TC.fnAt_mk ?l ?c ?k; (case l => k_is); (case c => k_is); (case k => k_is))
    (case aPl => k_is)
    (case dPl => refine' TC.fnAt_mk ?l ?c ?k; (case l => k_is); (case c => k_is); (case k => k_is))
    (case aSp => k_is)
    (case dSp => refine' TC.fnAt_mk ?l ?c ?k; (case l => k_is); (case c => k_is); (case k => k_is))
    (case aA => k_is)
    (case dA => refine' TC.fnAt_mk ?l ?c ?k; (case l => k_is); (case c => k_is); (case k => k_is))
    (case aT => k_is)
    (case lT => k_is)
    (case c1 => k_is)
    (case c2 => k_is)
    (case c3 => k_is)
    (case c4 => k_is)
    (case c5 => k_is)
    (case c6 => k_is)
    (case c7 => k_is)
    (case c8 => k_is)
    (case c9 => k_is)
    (case z1 => k_is)
    (case z2 => k_is)
    (case z3 => k_is)
    (case z4 => k_is)
    (case z5 => k_is)
    (case z6 => k_is)
    (case z7 => k_is)
    (case z8 => k_is)
    (case z9 => k_is)
    (case z10 => k_is)
    (case z11 => k_is)
    (case pg => k_is)
    (case hd => k_is)
    (case po => k_is)
    (case sa => k_is)
    (case mk => k_is)
    (case kc => k_is)
    (case n1 => k_is)
    (case n2 => k_is)
    (case n3 => k_is)
    (case n4 => k_is)
  case S =>
    intro K H xs a hO hwi hask hx
    cases hx with
    | cons h1 h2 =>
      cases h2
      cases h1 with
      | lst hs ha =>
        have e := L2.ints_dw a.1 _ ha
        subst e
        obtain ⟨cs, e1, e2, e3, e4, e5⟩ := TC.asked_calls (l := a.1) hask
        refine ⟨_, cs, rfl, (by rw [← e1]; exact hs), e3, e2, ?_, fun H' p hp => .lst (L2.SqL.of hp) ?_⟩
        · rw [TC.runs_len]
          have : Sx07.init = Sx07Neutral.start := rfl
          rw [this]
          omega
        · have e6 : TC.runs Sx07.init cs = TC.runs Sx07Neutral.start cs := rfl
          rw [e6, ← TC.told_played, ← e4]
          exact L2.dw_ints _
end
