import PyProof.Rows.All
import Wide.All
import OpenK.AllK
import Wide.FinOn
import PyProof.EqAt
import PyProof.EqKinds
import PyProof.TupleCall
import KE.BitLaws
import Open.SpecLaws
import KE.OsHead
import KE.OsGo
import PyProof.Rows.SortG.SortRunsSt
import KE.KSortTup
import PyProof.FactsAll.list_2
import PySem.Challenge.RW_signsonly_s01_answers
section
set_option Elab.async false
set_option linter.all false
set_option maxRecDepth 100000
set_option Elab.async false
set_option linter.all false
set_option maxRecDepth 100000
set_option maxHeartbeats 2000000
namespace L2
open PySem PySem.Spec PyProof.Rows
abbrev Key := Sum Int Str
def keyIs : Key → Value → Bool
  | .inl k, v => Value.isInt k v
  | .inr x, v => Value.isStrOf x v
def keyH (w : World) : Key → Int
  | .inl k => hashInt k
  | .inr x => hashStr w x
theorem keyIs_shape : ∀ {k : Key} {v : Value}, keyIs k v = true → (∃ i t, k = Sum.inl i ∧ v = Value.int i t) ∨ (∃ x t, k = Sum.inr x ∧ v = Value.str x t)
  | .inl i, v, h => by
    obtain ⟨t, e⟩ := Value.isInt_shape (k := i) (v := v) h
    exact .inl ⟨i, t, rfl, e⟩
  | .inr x, v, h => by
    obtain ⟨t, e⟩ := Value.isStrOf_shape (x := x) (v := v) h
    exact .inr ⟨x, t, rfl, e⟩
theorem key_ll (a b : Int) : decide ((Sum.inl a : Key) = Sum.inl b) = (a == b) := by
  by_cases e : a = b
  · subst e; simp
  · have h : ¬ (Sum.inl a : Key) = Sum.inl b := fun q => e (Sum.inl.inj q)
    rw [decide_eq_false h]
    exact (beq_eq_false_iff_ne.mpr e).symm
theorem key_rr (a b : Str) : decide ((Sum.inr a : Key) = Sum.inr b) = decide (a = b) := by
  by_cases e : a = b
  · subst e; simp
  · have h : ¬ (Sum.inr a : Key) = Sum.inr b := fun q => e (Sum.inr.inj q)
    rw [decide_eq_false h, decide_eq_false e]
theorem key_lr (a : Int) (b : Str) : decide ((Sum.inl a : Key) = Sum.inr b) = false := decide_eq_false (fun q => nomatch q)
theorem key_rl (a : Str) (b : Int) : decide ((Sum.inr a : Key) = Sum.inl b) = false := decide_eq_false (fun q => nomatch q)
def mixKind (prog : Program) (w : World) : PySem.KeyKind prog w Key where
  is := keyIs
  hash := keyH w
  inj := fun v a b ha hb => by
    rcases keyIs_shape ha with ⟨i, t, rfl, rfl⟩ | ⟨x, t, rfl, rfl⟩
    · rcases keyIs_shape hb with ⟨j, u, rfl, e⟩ | ⟨y, u, rfl, e⟩
      · injection e with e1 _; rw [e1]
      · exact nomatch e
    · rcases keyIs_shape hb with ⟨j, u, rfl, e⟩ | ⟨y, u, rfl, e⟩
      · exact nomatch e
      · injection e with e1 _; rw [e1]
  byValue := fun k v h => by
    rcases keyIs_shape h with ⟨i, t, rfl, rfl⟩ | ⟨x, t, rfl, rfl⟩ <;> rfl
  pyHash := fun hv h => by
    rcases keyIs_shape hv with ⟨i, t, rfl, rfl⟩ | ⟨x, t, rfl, rfl⟩
    · exact wpAny_pyHash_int h
    · exact wpAny_pyHash_str h
  eqBool := fun hu hv h => by
    rcases keyIs_shape hu with ⟨i, t, rfl, rfl⟩ | ⟨x, t, rfl, rfl⟩
    · rcases keyIs_shape hv with ⟨j, u, rfl, rfl⟩ | ⟨y, u, rfl, rfl⟩
      · rw [key_ll] at h; exact wpAny_eqBool_int h
      · rw [key_lr] at h; exact SeqAt.EqAt.int_str i t y u _ _ _ _ h
    · rcases keyIs_shape hv with ⟨j, u, rfl, rfl⟩ | ⟨y, u, rfl, rfl⟩
      · rw [key_rl] at h; exact SeqAt.EqAt.str_int x t j u _ _ _ _ h
      · rw [key_rr] at h; exact wpAny_eqBool_str h
  «strs» := fun k x t v h => by
    rcases keyIs_shape h with ⟨i, u, rfl, e⟩ | ⟨y, u, rfl, e⟩
    · exact nomatch e
    · injection e with e1 _
      subst e1
      cases v <;> rfl
end L2
namespace L2
open PySem PySem.Spec PyProof.Rows
inductive V where
  | non | bl (b : Bool) | int (i : Int) | str (x : Str) | byt (b : Array UInt8) | flt (b : UInt64) | ref (a : Addr) | ty (n : String)
  deriving DecidableEq
def RelV : V → Value → Prop
  | .non, u => u = Value.none
  | .bl b, u => u = Value.bool b
  | .int i, u => ∃ t, u = Value.int i t
  | .str x, u => ∃ t, u = Value.str x t
  | .byt b, u => ∃ t, u = Value.bytes b t
  | .flt b, u => ∃ t, u = Value.float b t
  | .ref a, u => u = Value.ref a
  | .ty n, u => u = Value.type n
abbrev Vals : List V → List Value → Prop := Paired RelV
theorem Vals.length {xs : List V} {us : List Value} (r : Vals xs us) : xs.length = us.length := Paired.length r
theorem Vals.get : ∀ {xs : List V} {us : List Value} {i : Nat} {x : V}, Vals xs us → xs[i]? = some x → ∃ u, us[i]? = some u ∧ RelV x u
  | _, _, _, _, .nil, e => by simp at e
  | _, _, 0, _, .cons r _, e => by simp at e; subst e; exact ⟨_, rfl, r⟩
  | _, _, i + 1, x, .cons _ t, e => by
    obtain ⟨u, h1, h2⟩ := Vals.get (i := i) (x := x) t (by simpa using e)
    exact ⟨u, by simpa using h1, h2⟩
theorem Vals.set {x : V} {u : Value} (r : RelV x u) : ∀ {xs : List V} {us : List Value} (i : Nat), Vals xs us → Vals (xs.set i x) (us.set i u)
  | _, _, _, .nil => .nil
  | _, _, 0, .cons _ t => .cons r t
  | _, _, i + 1, .cons q t => .cons q (Vals.set r i t)
theorem Vals.append : ∀ {xs ys : List V} {us ws : List Value}, Vals xs us → Vals ys ws → Vals (xs ++ ys) (us ++ ws)
  | _, _, _, _, .nil, s => s
  | _, _, _, _, .cons r t, s => .cons r (Vals.append t s)
theorem Vals.take : ∀ {xs : List V} {us : List Value} (n : Nat), Vals xs us → Vals (xs.take n) (us.take n)
  | _, _, 0, _ => .nil
  | _, _, _ + 1, .nil => .nil
  | _, _, n + 1, .cons r t => .cons r (Vals.take n t)
theorem Vals.drop : ∀ {xs : List V} {us : List Value} (n : Nat), Vals xs us → Vals (xs.drop n) (us.drop n)
  | _, _, 0, r => r
  | _, _, _ + 1, .nil => .nil
  | _, _, n + 1, .cons _ t => Vals.drop n t
def RelO : Option V → Option Value → Prop
  | some v, some u => RelV v u
  | none, none => True
  | _, _ => False
def KV {κ : Type} : List (κ × V) → List (κ × Value) → Prop := Paired fun (p : κ × V) (q : κ × Value) => p.1 = q.1 ∧ RelV p.2 q.2
def kV : Key → V
  | .inl i => .int i
  | .inr x => .str x
inductive HO where
  /-- a list -/
  | lst (xs : List V)
  /-- a tuple (never changes) -/
  | tup (xs : List V)
  /-- a dict whose keys are ints and texts; one whose keys are tuples of ints and texts (the empty one is both) -/
  | dK (kvs : List (Key × V)) | dT (kvs : List (List Key × V))
  /-- a set of ints: its members, its size -/
  | set (S : Int → Bool) (n : Nat)
  /-- an instance of the class at C, its dict at dx, its attributes -/
  | ins (C dx : Addr) (fs : List (Str × V))
  /-- the dict of the instance at x -/
  | own (x : Addr)
  /-- the dict of an exception -/
  | xd (fs : List (Str × V))
  /-- a bound method, f of x -/
  | met (f x : Addr)
  /-- a range object lo, lo + 1, .. below hi -/
  | rng (lo hi : Int)
  /-- a thing that is known to the object (the script; a dict while a loop walks it): read, never written while it is so -/
  | frz (o : Obj) (u : HO)
  /-- a code object's table -/
  | tbl (ps : Array Value)
  /-- any other thing, by what is true of its one object (a def of one's own: SetO a S n := HO.ext fun h => ..) -/
  | ext (φ : Heap → Prop)
abbrev Hp := Addr → Option HO
def upd (H : Hp) (a : Addr) (o : HO) : Hp := fun b => if b = a then some o else H b
theorem upd_same {H : Hp} {a : Addr} {o : HO} : upd H a o a = some o := by unfold upd; rw [if_pos rfl]
theorem upd_ne {H : Hp} {a b : Addr} {o : HO} (h : b ≠ a) : upd H a o b = H b := by unfold upd; rw [if_neg h]
theorem ne_of {H : Hp} {a b : Addr} {o u : HO} (h : H a = some o) (h' : H b = some u) (d : o ≠ u) : a ≠ b := by
  intro e; subst e; rw [h] at h'; exact d (Option.some.inj h')
theorem ne_of_none {H : Hp} {a b : Addr} {o : HO} (h : H a = some o) (h' : H b = none) : a ≠ b := by
  intro e; subst e; rw [h] at h'; cases h'
section
variable (P : Program) (w : World)
def ObjOk (H : Hp) (h : Heap) (a : Addr) : HO → Prop
  | .lst xs => xs.length ≤ sizeLine ∧ ∃ (its : List Value) (n : Nat), Vals xs its ∧ h.get? a = some { cls := .type "list", data := .seq its.toArray n }
  | .tup xs => xs.length ≤ sizeLine ∧ ∃ its : List Value, Vals xs its ∧ IsTup h a its.toArray
  | .dK kvs => kvs.length ≤ sizeLine ∧ (a == sysModules) = false ∧ ∃ vs, KV kvs vs ∧ h.DictOf (mixKind P w) a vs
  | .dT kvs => kvs.length ≤ sizeLine ∧ (a == sysModules) = false ∧ ∃ xs : List (List Key × Addr × Value),
      Paired (fun (p : List Key × V) (q : List Key × Addr × Value) => p.1 = q.1 ∧ H q.2.1 = some (.tup (p.1.map kV)) ∧ RelV p.2 q.2.2) kvs xs ∧
      ∃ o es ep, h.get? a = some o ∧ o.ExactDict ∧ o.data = .dict es ep ∧ es.toList = xs.map (entryOfKey (tupleKind (mixKind P w))) ∧ (xs.map (·.1)).Nodup
  | .set S n => h.SetOf (intKind P w) a S n
  | .ins C dx fs => H dx = some (.own a) ∧ fs.length ≤ 1000 ∧ dx ≠ a ∧ h.get? a = some (PySem.W.instObj C dx) ∧
      ∃ mA, h.Ns1 dx mA ∧ (∀ f, RelO (fs.lookup f) (mA f)) ∧ PySem.Within mA (fs.map (·.1))
  | .own _ => ∃ o, h.get? a = some o
  | .xd fs => ∃ mA, h.Ns1 a mA ∧ ∀ f, RelO (fs.lookup f) (mA f)
  | .rng lo hi => ∃ t u v, h.get? a = some { cls := .type "range", data := .fields #[.int lo t, .int hi u, .int 1 v] }
  | .frz o u => h.get? a = some o ∧ ObjOk H h a u
  | .tbl ps => h.get? a = some { cls := .none, data := .fields ps }
  | .met f x => h.get? a = some (PySem.W.methodObj (.ref f) (.ref x))
  | .ext φ => φ h ∧ (∃ o, h.get? a = some o) ∧ ∀ h1 h2 : Heap, φ h1 → (∀ o, h1.get? a = some o → h2.get? a = some o) → φ h2
def HOk (H : Hp) (h : Heap) : Prop := ∀ a o, H a = some o → ObjOk P w H h a o
end
section
variable {P : Program} {w : World} {H H' : Hp} {h h' : Heap} {a : Addr} {o : HO}
theorem ObjOk.lt (x : ObjOk P w H h a o) : a < h.objs.size := by
  cases o with
  | lst xs => obtain ⟨_, _, _, _, e⟩ := x; exact Heap.lt_size e
  | tup xs => obtain ⟨_, _, _, p⟩ := x; exact p.lt
  | dK kvs => obtain ⟨_, _, _, _, o, _, _, e, _⟩ := x; exact Heap.lt_size e
  | dT kvs => obtain ⟨_, _, _, _, o, _, _, e, _⟩ := x; exact Heap.lt_size e
  | set S n => obtain ⟨o, _, _, _, e, _⟩ := x; exact Heap.lt_size e
  | ins C dx fs => obtain ⟨_, _, _, e, _⟩ := x; exact Heap.lt_size e
  | own y => obtain ⟨_, e⟩ := x; exact Heap.lt_size e
  | xd fs => obtain ⟨_, ⟨_, _, _, e, _⟩, _⟩ := x; exact Heap.lt_size e
  | rng lo hi => obtain ⟨_, _, _, e⟩ := x; exact Heap.lt_size e
  | frz ob u => obtain ⟨e, _⟩ := x; exact Heap.lt_size e
  | tbl ps => exact Heap.lt_size (show h.get? a = some _ from x)
  | met f y => exact Heap.lt_size (show h.get? a = some _ from x)
  | ext φ => obtain ⟨_, ⟨_, e⟩, _⟩ := x; exact Heap.lt_size e
theorem Paired.mapP {α β : Type} {F G : α → β → Prop} : ∀ {l₁ : List α} {l₂ : List β}, Paired F l₁ l₂ → (∀ a b, F a b → G a b) → Paired G l₁ l₂
  | _, _, .nil, _ => .nil
  | _, _, .cons r t, f => .cons (f _ _ r) (Paired.mapP t f)
theorem ObjOk.stay (x : ObjOk P w H h a o) (k : ∀ b u, (b = a ∨ H b = some (.own a)) → h.get? b = some u → h'.get? b = some u)
    (ho : ∀ b, H b = some (.own a) → H' b = some (.own a)) (ht : ∀ b xs, H b = some (.tup xs) → H' b = some (.tup xs)) : ObjOk P w H' h' a o := by
  induction o with
  | lst xs => obtain ⟨z, its, n, r, e⟩ := x; exact ⟨z, its, n, r, k _ _ (.inl rfl) e⟩
  | tup xs => obtain ⟨z, its, r, ob, e, c⟩ := x; exact ⟨z, its, r, ob, k _ _ (.inl rfl) e, c⟩
  | dK kvs => obtain ⟨z, y, vs, r, ob, es, ep, e, c⟩ := x; exact ⟨z, y, vs, r, ob, es, ep, k _ _ (.inl rfl) e, c⟩
  | dT kvs =>
    obtain ⟨z, y, xs, r, ob, es, ep, e, c⟩ := x
    exact ⟨z, y, xs, Paired.mapP r fun p q z => ⟨z.1, ht _ _ z.2.1, z.2.2⟩, ob, es, ep, k _ _ (.inl rfl) e, c⟩
  | set S n => obtain ⟨ob, es, ep, t, e, c⟩ := x; exact ⟨ob, es, ep, t, k _ _ (.inl rfl) e, c⟩
  | ins C dx fs =>
    obtain ⟨d, z, ne, e, mA, ⟨od, es, ep, e2, c⟩, r⟩ := x
    exact ⟨ho _ d, z, ne, k _ _ (.inl rfl) e, mA, ⟨od, es, ep, k _ _ (.inr d) e2, c⟩, r⟩
  | own y => obtain ⟨ob, e⟩ := x; exact ⟨ob, k _ _ (.inl rfl) e⟩
  | xd fs => obtain ⟨mA, ⟨od, es, ep, e, c⟩, r⟩ := x; exact ⟨mA, ⟨od, es, ep, k _ _ (.inl rfl) e, c⟩, r⟩
  | rng lo hi => obtain ⟨t, u, v, e⟩ := x; exact ⟨t, u, v, k _ _ (.inl rfl) e⟩
  | frz ob u ih => obtain ⟨e, q⟩ := x; exact ⟨k _ _ (.inl rfl) e, ih q⟩
  | tbl ps =>
    have e : h.get? a = some { cls := .none, data := .fields ps } := x
    show h'.get? a = some { cls := .none, data := .fields ps }
    exact k a _ (.inl rfl) e
  | met f y =>
    have e : h.get? a = some (PySem.W.methodObj (.ref f) (.ref y)) := x
    show h'.get? a = some (PySem.W.methodObj (.ref f) (.ref y))
    exact k a _ (.inl rfl) e
  | ext φ => obtain ⟨p, ⟨o, e⟩, st⟩ := x; exact ⟨st _ _ p fun o q => k _ _ (.inl rfl) q, ⟨o, k _ _ (.inl rfl) e⟩, st⟩
theorem HOk.lt (x : HOk P w H h) (e : H a = some o) : a < h.objs.size := (x a o e).lt
theorem HOk.fresh (x : HOk P w H h) (e : h.objs.size ≤ a) : H a = none := by
  cases q : H a with
  | none => rfl
  | some u => exact absurd (Nat.lt_of_lt_of_le (x.lt q) e) (Nat.lt_irrefl _)
theorem HOk.kept (x : HOk P w H h) (k : ∀ b u, h.get? b = some u → h'.get? b = some u) : HOk P w H h' := fun a o e =>
  (x a o e).stay (fun b u _ q => k b u q) (fun _ q => q) fun _ _ q => q
theorem HOk.laid (x : HOk P w H h) (k : ∀ b u, h.get? b = some u → h'.get? b = some u) (hp : h.objs.size ≤ a) (new : ObjOk P w (upd H a o) h' a o) : HOk P w (upd H a o) h' := fun b u e => by
  have hn := x.fresh hp
  by_cases hb : b = a
  · subst hb; rw [upd_same] at e; cases e; exact new
  · rw [upd_ne hb] at e
    exact (x b u e).stay (fun c v _ q => k c v q) (fun c q => by rw [upd_ne (ne_of_none q hn)]; exact q) fun c xs q => by rw [upd_ne (ne_of_none q hn)]; exact q
end
def Rd (H : Hp) (a : Addr) (u : HO) : Prop := H a = some u ∨ ∃ o, H a = some (.frz o u)
theorem Rd.ok {P : Program} {w : World} {H : Hp} {h : Heap} {a : Addr} {u : HO} (r : Rd H a u) (x : HOk P w H h) : ObjOk P w H h a u := by
  rcases r with r | ⟨o, r⟩
  · exact x a u r
  · obtain ⟨_, q⟩ := x a _ r
    exact q
def Mut : Option HO → Prop
  | some (.lst _) => True
  | some (.dK _) => True
  | some (.dT _) => True
  | some (.set _ _) => True
  | some (.ins _ _ _) => True
  | some (.ext _) => True
  | _ => False
section
variable {P : Program} {w : World} {H : Hp} {h h' : Heap} {x e : Addr} {o' : HO}
theorem HOk.write (ok : HOk P w H h) (mu : Mut (H x)) (he : e = x ∨ H e = some (.own x)) (k : ∀ b u, b ≠ e → h.get? b = some u → h'.get? b = some u) (heo : ∃ u, h'.get? e = some u)
    (new : ObjOk P w (upd H x o') h' x o') : HOk P w (upd H x o') h' := fun b u q => by
  have nown : ∀ c y, H c = some (.own y) → c ≠ x := fun c y r z => by subst z; rw [r] at mu; exact mu
  have ntup : ∀ c xs, H c = some (.tup xs) → c ≠ x := fun c xs r z => by subst z; rw [r] at mu; exact mu
  by_cases hb : b = x
  · subst hb; rw [upd_same] at q; cases q; exact new
  · rw [upd_ne hb] at q
    by_cases hbe : b = e
    · have q' : H b = some (.own x) := by
        rcases he with z | z
        · exact absurd (hbe.trans z) hb
        · rw [hbe]; exact z
      rw [q] at q'; cases q'
      obtain ⟨v, hv⟩ := heo
      exact ⟨v, by rw [hbe]; exact hv⟩
    · refine (ok b u q).stay (fun c v hc r => k c v ?_ r) (fun c r => by rw [upd_ne (nown c b r)]; exact r) fun c xs r => by rw [upd_ne (ntup c xs r)]; exact r
      rcases hc with rfl | hc
      · exact hbe
      · rintro rfl
        rcases he with z | z
        · exact nown c b hc z
        · rw [hc] at z; cases z; exact hb rfl
end
structure Un (fs ex : List Addr) (H H' : Hp) (h h' : Heap) : Prop where
  keep : ∀ b o, h.get? b = some o → H b = none → b ∉ fs → b ∉ ex → h'.get? b = some o
  slot : ∀ b o, h.get? b = some o → H b = none → b ∈ fs → b ∉ ex → ∃ sl, h'.get? b = some { o with slots := sl }
  free : ∀ b o, h.get? b = some o → H b = none → b ∉ ex → H' b = none
  there : ∀ b o, h.get? b = some o → b ∉ ex → ∃ o', h'.get? b = some o'
  tups : ∀ b xs, H b = some (.tup xs) → H' b = some (.tup xs)
  frzs : ∀ b o u, H b = some (.frz o u) → H' b = some (.frz o u)
  tbls : ∀ b ps, H b = some (.tbl ps) → ∃ more, H' b = some (.tbl (ps ++ more))
section
variable {fs fs' ex ex' : List Addr} {H H1 H2 : Hp} {h h1 h2 h' : Heap} {a x e : Addr} {o : HO}
theorem Un.any (u : Un fs ex H H1 h h1) {b : Addr} {ob : Obj} (q : h.get? b = some ob) (n : H b = none) (hx : b ∉ ex) : ∃ sl, h1.get? b = some { ob with slots := sl } := by
  by_cases hb : b ∈ fs
  · exact u.slot b ob q n hb hx
  · exact ⟨ob.slots, u.keep b ob q n hb hx⟩
theorem Un.kept (k : ∀ b u, h.get? b = some u → h'.get? b = some u) : Un fs ex H H h h' :=
  ⟨fun b ob q _ _ _ => k b ob q, fun b ob q _ _ _ => ⟨ob.slots, k b ob q⟩, fun _ _ _ n _ => n, fun b ob q _ => ⟨ob, k b ob q⟩, fun _ _ q => q, fun _ _ _ q => q, fun _ ps q => ⟨#[], by rw [q]; simp⟩⟩
theorem Un.refl : Un fs ex H H h h := Un.kept fun _ _ q => q
theorem Un.laid (k : ∀ b u, h.get? b = some u → h'.get? b = some u) (hp : h.objs.size ≤ a) (hn : H a = none) : Un fs ex H (upd H a o) h h' where
  keep := fun b u q _ _ _ => k b u q
  slot := fun b u q _ _ _ => ⟨u.slots, k b u q⟩
  free := fun b u q n _ => by rw [upd_ne (Nat.ne_of_lt (Nat.lt_of_lt_of_le (Heap.lt_size q) hp))]; exact n
  there := fun b u q _ => ⟨u, k b u q⟩
  tups := fun b xs q => by rw [upd_ne (ne_of_none q hn)]; exact q
  frzs := fun b u xs q => by rw [upd_ne (ne_of_none q hn)]; exact q
  tbls := fun b ps q => ⟨#[], by rw [upd_ne (ne_of_none q hn), q]; simp⟩
theorem Un.write (mu : Mut (H x)) (he : e = x ∨ H e = some (.own x)) (k : ∀ b u, b ≠ e → h.get? b = some u → h'.get? b = some u) (heo : ∃ u, h'.get? e = some u) : Un fs ex H (upd H x o) h h' := by
  have hx : ∀ b, H b = none → b ≠ x := fun b n z => by subst z; rw [n] at mu; exact mu
  have hb : ∀ b, H b = none → b ≠ e := fun b n z => by
    subst z
    rcases he with r | r
    · exact hx b n r
    · rw [n] at r; cases r
  have hm : ∀ b u, H b = some u → ¬ Mut (some u) → b ≠ x := fun b u q nm z => by subst z; rw [q] at mu; exact nm mu
  refine ⟨fun b u q n _ _ => k b u (hb b n) q, fun b u q n _ _ => ⟨u.slots, k b u (hb b n) q⟩, fun b u q n _ => by rw [upd_ne (hx b n)]; exact n, fun b u q _ => ?_,
    fun b xs q => by rw [upd_ne (hm b _ q fun z => z)]; exact q, fun b u xs q => by rw [upd_ne (hm b _ q fun z => z)]; exact q, fun b ps q => ⟨#[], by rw [upd_ne (hm b _ q fun z => z), q]; simp⟩⟩
  by_cases hbe : b = e
  · subst hbe; exact heo
  · exact ⟨u, k b u hbe q⟩
end
def trk (h : Heap) (H : Hp) : List Addr := (List.range h.objs.size).filter fun a => (H a).isSome
def hidT (h : Heap) (H : Hp) : Heap := PySem.W.hideAll h (trk h H)
theorem hidT_size (h : Heap) (H : Hp) : (hidT h H).objs.size = h.objs.size := PySem.W.hideAll_size _ _
theorem hidT_get {h : Heap} {H : Hp} {b : Addr} {o : Obj} (e : h.get? b = some o) (n : H b = none) : (hidT h H).get? b = some o :=
  PySem.W.hideAll_get _ e fun hm => by
    have q : (H b).isSome = true := (List.mem_filter.mp hm).2
    rw [n] at q; simp at q
theorem of_hidT {h : Heap} {H : Hp} {b : Addr} {o : Obj} (e : (hidT h H).get? b = some o) : h.get? b = some o ∧ H b = none := by
  have e' : h.get? b = some o := PySem.W.of_hideAll (trk h H) e
  refine ⟨e', ?_⟩
  cases q : H b with
  | none => rfl
  | some x =>
    have hm : b ∈ trk h H := List.mem_filter.mpr ⟨List.mem_range.mpr (Heap.lt_size e'), by simp [q]⟩
    have z : (hidT h H).get? b = none := PySem.W.hideAll_none (trk h H) hm
    rw [z] at e; cases e
def allNews (g h : Heap) (L : Addr) : List (Addr × Obj) := (List.range h.objs.size).filterMap fun a => if a = L ∨ (g.get? a).isSome = true then none else (h.get? a).map fun o => (a, o)
def rest (g h : Heap) (L d : Addr) : List (Addr × Obj) := (allNews g h L).filter fun p => decide (p.1 ≠ d)
end L2
namespace L2
open PySem PySem.Spec PyProof.Rows
structure Mod (K : PySem.W.Frag) (mg : Str → Option Value) (base : Heap) : Prop where
  kin : K.In base
  glob : base.Ns mainGlobals mg
  blt : ∃ mb, base.Ns builtinsNs mb ∧ ∀ x : Str, x ≠ "__name__" → mb x = bootBuiltins x
  nolimit : base.NoLimit
structure Cx where
  prog : Program
  w : World
  K : PySem.W.Frag
  mg : Str → Option Value
  base : Heap
  A : Around
  N : List Str
  s_0 : Shared
  H_0 : Hp
  env : Env
  outer : List Env
  stack : List Env
  ex : List Addr
  fn : Str → Bool
  calm : Bool
  pn : List (Addr × Obj)
  xe : Value → Shared → Prop
def frs (l : List Env) : List Addr := l.filterMap (·.frame)
abbrev Cx.fs (X : Cx) : List Addr := frs X.outer
def Vis (sc : Scope) (x : Str) : Prop := sc.names.lookup x = some .local ∨ sc.names.lookup x = some .cell ∨ sc.names.lookup x = some .free
def Loc (sc : Scope) (x : Str) : Prop := sc.names.lookup x = some .local ∨ sc.names.lookup x = some .cell
def Look (env : Env) (h : Heap) (m : Str → Option Value) (x : Str) (u : Value) : Prop :=
  (env.kindOf x = some .local ∧ m x = some u) ∨ ((env.kindOf x = some .cell ∨ env.kindOf x = some .free) ∧ ∃ c, env.cells.lookup x = some c ∧ h.IsCell c (some u))
structure Cx.Ok (X : Cx) : Prop where
  mod : Mod X.K X.mg X.base
  kind : X.env.scope.kind = .function
  glob : X.env.globals = mainGlobals
  blt : X.env.builtins = builtinsNs
  above : X.s_0.heap.objs.size ≤ X.env.locals
  inj : ∀ x y c, X.env.cells.lookup x = some c → X.env.cells.lookup y = some c → x = y
  has : ∀ x, (X.env.kindOf x = some .cell ∨ X.env.kindOf x = some .free) → ∃ c, X.env.cells.lookup x = some c
  cab : ∀ x c, X.fn x = true → X.env.cells.lookup x = some c → X.s_0.heap.objs.size ≤ c
  hd : X.calm = true → X.A.handled = none
  frames : X.A.frames = some X.stack
  stk : X.stack = X.outer ∨ (X.stack = X.env :: X.outer ∧ X.env.frame = some X.env.locals)
  exf : ∀ b ∈ X.ex, b ≠ X.env.locals ∧ ∀ x c, X.env.cells.lookup x = some c → c ≠ b
  bs : ∀ b o, X.base.get? b = some o → X.s_0.heap.get? b = some o ∧ X.H_0 b = none
  bsz : X.base.objs.size ≤ X.s_0.heap.objs.size
  noex : ∀ b o, X.base.get? b = some o → b ∉ X.ex
  exfs : ∀ b ∈ X.ex, b ∉ X.fs
  funs : X.s_0.heap.FunFrames X.base X.outer
  frf : ∀ b ∈ X.fs, X.H_0 b = none
structure Inv (X : Cx) (pins : List (Addr × Obj)) (σ : List (Option V)) (H : Hp) (s : Shared) : Prop where
  ok : X.Ok
  os : s.os = X.s_0.os
  bare : AllBare s.gens
  base : Un X.fs X.ex X.H_0 H X.s_0.heap s.heap
  loc : ∃ m, s.heap.Ns X.env.locals m ∧ ∀ (i : Nat) (x : Str) (v : V), X.N[i]? = some x → σ[i]? = some (some v) → Vis X.env.scope x → ∃ u, RelV v u ∧ Look X.env s.heap m x u
  cell : ∀ x c, X.env.cells.lookup x = some c → ∃ v, s.heap.IsCell c v
  free : H X.env.locals = none
  freeC : ∀ x c, X.env.cells.lookup x = some c → H c = none
  pin : ∀ p ∈ X.pn ++ pins, s.heap.get? p.1 = some p.2 ∧ H p.1 = none ∧ p.1 ≠ X.env.locals ∧ p.1 ∉ X.fs ∧ ∀ v, p.2.data ≠ .cell v
  hok : HOk X.prog X.w H s.heap
  len : σ.length = X.N.length
section
variable {X : Cx} {pins : List (Addr × Obj)} {σ : List (Option V)} {H H' : Hp} {s : Shared} {h' : Heap}
theorem Cx.Ok.nofr (ok : X.Ok) {b : Addr} {o : Obj} (e : X.base.get? b = some o) : b ∉ X.fs := fun hb => by
  have := (ok.funs.mem hb).1
  rw [e] at this; cases this
theorem Inv.bs (I : Inv X pins σ H s) : ∀ b o, X.base.get? b = some o → s.heap.get? b = some o ∧ H b = none := fun b o e =>
  ⟨I.base.keep b o (I.ok.bs b o e).1 (I.ok.bs b o e).2 (I.ok.nofr e) (I.ok.noex b o e), I.base.free b o (I.ok.bs b o e).1 (I.ok.bs b o e).2 (I.ok.noex b o e)⟩
theorem Inv.bk (I : Inv X pins σ H s) : ∀ b o, X.base.get? b = some o → s.heap.get? b = some o := fun b o e => (I.bs b o e).1
theorem Inv.mod (I : Inv X pins σ H s) : Mod X.K X.mg X.base := I.ok.mod
theorem Inv.kIn (I : Inv X pins σ H s) : X.K.In s.heap := I.ok.mod.kin.keeps I.bk
theorem Inv.lt (I : Inv X pins σ H s) : X.env.locals < s.heap.objs.size := let ⟨_, hn, _⟩ := I.loc; hn.lt
theorem Inv.sz (I : Inv X pins σ H s) : X.s_0.heap.objs.size ≤ s.heap.objs.size := Nat.le_trans I.ok.above (Nat.le_of_lt I.lt)
theorem Inv.nofs (I : Inv X pins σ H s) {a : Addr} (h : s.heap.objs.size ≤ a) : a ∉ X.fs := fun hb => by
  obtain ⟨_, o, ho, _⟩ := I.ok.funs.mem hb
  exact absurd (Nat.lt_of_lt_of_le (Heap.lt_size ho) (Nat.le_trans I.sz h)) (Nat.lt_irrefl _)
theorem Inv.cne (I : Inv X pins σ H s) : ∀ x c, X.env.cells.lookup x = some c → c ≠ X.env.locals := fun x c e z => by
  obtain ⟨v, o, ho, hd⟩ := I.cell x c e
  obtain ⟨m, ⟨o', es, ep, ho', hd', _⟩, _⟩ := I.loc
  rw [z, ho'] at ho; cases ho; rw [hd'] at hd; cases hd
theorem Inv.funs (I : Inv X pins σ H s) : s.heap.FunFrames X.base X.outer := by
  have all : ∀ (l : List Env), (∀ b ∈ frs l, b ∈ X.fs) → X.s_0.heap.FunFrames X.base l → s.heap.FunFrames X.base l := by
    intro l
    induction l with
    | nil => intro _ _; trivial
    | cons env r ih =>
      intro hs hl
      obtain ⟨hk, ⟨L, o, hf, hn, ho, hd⟩, hr⟩ := hl
      have hL : L ∈ X.fs := hs L (by unfold frs; rw [List.filterMap_cons, hf]; exact List.mem_cons_self)
      obtain ⟨sl, e⟩ := I.base.slot L o ho (I.ok.frf L hL) hL fun z => I.ok.exfs L z hL
      exact ⟨hk, ⟨L, _, hf, hn, e, hd⟩, ih (fun b hb => hs b (by unfold frs; rw [List.filterMap_cons, hf]; exact List.mem_cons_of_mem _ hb)) hr⟩
  exact all X.outer (fun _ hb => hb) I.ok.funs
theorem Inv.stack (I : Inv X pins σ H s) : s.heap.FunFrames X.base X.stack := by
  rcases I.ok.stk with e | ⟨e, hf⟩
  · rw [e]; exact I.funs
  · rw [e]
    obtain ⟨m, hn, _⟩ := I.loc
    refine .cons (by rw [I.ok.kind]; decide) hf hn ?_ I.funs
    exact Heap.get?_none_of_le (Nat.le_trans I.ok.bsz I.ok.above)
theorem Inv.stkSub (I : Inv X pins σ H s) : ∀ b ∈ frs X.stack, b ∈ X.env.locals :: X.fs := fun b hb => by
  rcases I.ok.stk with e | ⟨e, hf⟩
  · rw [e] at hb; exact List.mem_cons_of_mem _ hb
  · rw [e] at hb
    unfold frs at hb
    rw [List.filterMap_cons, hf] at hb
    exact hb
theorem Inv.stkFree (I : Inv X pins σ H s) : ∀ b ∈ frs X.stack, H b = none := fun b hb => by
  rcases List.mem_cons.mp (I.stkSub b hb) with e | hb
  · rw [e]; exact I.free
  · obtain ⟨_, o, ho, _⟩ := I.ok.funs.mem hb
    exact I.base.free b o ho (I.ok.frf b hb) fun z => I.ok.exfs b z hb
theorem Inv.step {g' : Array GenState} {t' : Nat} {d' : Drawn} {ch : List Addr} (I : Inv X pins σ H s)
    (hch : ∀ b ∈ ch, (b ∈ X.ex ∨ X.s_0.heap.objs.size ≤ b) ∧ b ≠ X.env.locals ∧ (∀ x c, X.env.cells.lookup x = some c → c ≠ b) ∧ ∀ p ∈ X.pn ++ pins, p.1 ≠ b)
    (keep : ∀ b o, b ≠ X.env.locals → b ∉ X.fs → b ∉ ch → s.heap.get? b = some o → H b = none → h'.get? b = some o)
    (slot : ∀ b o, b ≠ X.env.locals → b ∈ X.fs → b ∉ ch → s.heap.get? b = some o → H b = none → ∃ sl, h'.get? b = some { o with slots := sl }) (free : ∀ b o, b ∉ ch → s.heap.get? b = some o → H b = none → H' b = none)
    (there : ∀ b o, b ∉ ch → s.heap.get? b = some o → ∃ o', h'.get? b = some o')
    (tups : ∀ b xs, H b = some (.tup xs) → H' b = some (.tup xs)) (frzs : ∀ b o u, H b = some (.frz o u) → H' b = some (.frz o u)) (tbls : ∀ b ps, H b = some (.tbl ps) → ∃ more, H' b = some (.tbl (ps ++ more)))
    (ns : ∀ m, s.heap.Ns X.env.locals m → h'.Ns X.env.locals m) (hok : HOk X.prog X.w H' h') (hg : AllBare g') :
    Inv X pins σ H' { s with heap := h', gens := g', drawn := d', toks := t' } := by
  have neL : ∀ b o, X.s_0.heap.get? b = some o → b ≠ X.env.locals := fun b o e => Nat.ne_of_lt (Nat.lt_of_lt_of_le (Heap.lt_size e) I.ok.above)
  have neC : ∀ b o, X.s_0.heap.get? b = some o → b ∉ X.ex → b ∉ ch := fun b o e hx hb => by
    rcases (hch b hb).1 with z | z
    · exact hx z
    · exact absurd (Nat.lt_of_lt_of_le (Heap.lt_size e) z) (Nat.lt_irrefl _)
  have cellK : ∀ x c, X.env.cells.lookup x = some c → ∀ v, s.heap.IsCell c v → h'.IsCell c v := fun x c e v ⟨o, ho, hd⟩ => by
    have nch : c ∉ ch := fun z => (hch c z).2.2.1 x c e rfl
    by_cases hc : c ∈ X.fs
    · obtain ⟨sl, q⟩ := slot c o (I.cne x c e) hc nch ho (I.freeC x c e)
      exact ⟨_, q, hd⟩
    · exact ⟨o, keep c o (I.cne x c e) hc nch ho (I.freeC x c e), hd⟩
  refine ⟨I.ok, I.os, hg, ⟨fun b o e n hb hx => ?_, fun b o e n hb hx => ?_, fun b o e n hx => ?_, fun b o e hx => ?_, fun b xs e => tups b xs (I.base.tups b xs e), fun b o xs e => frzs b o xs (I.base.frzs b o xs e), fun b ps e => ?_⟩, ?_, fun x c e => ?_, ?_, fun x c e => ?_, fun p hp => ?_, hok, I.len⟩
  · exact keep b o (neL b o e) hb (neC b o e hx) (I.base.keep b o e n hb hx) (I.base.free b o e n hx)
  · obtain ⟨sl, e1⟩ := I.base.slot b o e n hb hx
    obtain ⟨sl', e2⟩ := slot b _ (neL b o e) hb (neC b o e hx) e1 (I.base.free b o e n hx)
    exact ⟨sl', e2⟩
  · obtain ⟨o', e1⟩ := I.base.there b o e hx
    exact free b o' (neC b o e hx) e1 (I.base.free b o e n hx)
  · obtain ⟨o', e1⟩ := I.base.there b o e hx
    exact there b o' (neC b o e hx) e1
  · obtain ⟨m1, e1⟩ := I.base.tbls b ps e
    obtain ⟨m2, e2⟩ := tbls b _ e1
    exact ⟨m1 ++ m2, by rw [e2, Array.append_assoc]⟩
  · obtain ⟨m, hn, hl⟩ := I.loc
    refine ⟨m, ns m hn, fun i x v e1 e2 e3 => ?_⟩
    obtain ⟨u, r, l⟩ := hl i x v e1 e2 e3
    refine ⟨u, r, ?_⟩
    rcases l with l | ⟨k, c, e, z⟩
    · exact .inl l
    · exact .inr ⟨k, c, e, cellK x c e _ z⟩
  · obtain ⟨v, z⟩ := I.cell x c e
    exact ⟨v, cellK x c e v z⟩
  · obtain ⟨m, ⟨o, _, _, ho, _⟩, _⟩ := I.loc
    exact free _ o (fun z => (hch _ z).2.1 rfl) ho I.free
  · obtain ⟨v, o, ho, hd⟩ := I.cell x c e
    exact free c o (fun z => (hch c z).2.2.1 x c e rfl) ho (I.freeC x c e)
  · obtain ⟨e, n, ne, nf, d⟩ := I.pin p hp
    have nch : p.1 ∉ ch := fun z => (hch p.1 z).2.2.2 p hp rfl
    exact ⟨keep p.1 p.2 ne nf nch e n, free p.1 p.2 nch e n, ne, nf, d⟩
theorem Inv.un {t' : Nat} (I : Inv X pins σ H s) (u : Un X.fs [] H H' s.heap h') (hok : HOk X.prog X.w H' h') : Inv X pins σ H' { s with heap := h', toks := t' } := by
  obtain ⟨m, ⟨o, es, ep, ho, r⟩, _⟩ := id I.loc
  obtain ⟨sl, hL⟩ := u.any ho I.free (by simp)
  exact I.step (g' := s.gens) (d' := s.drawn) (ch := []) (fun _ z => nomatch z) (fun b o _ hb _ e n => u.keep b o e n hb (by simp)) (fun b o _ hb _ e n => u.slot b o e n hb (by simp)) (fun b o _ e n => u.free b o e n (by simp)) (fun b o _ e => u.there b o e (by simp)) u.tups u.frzs u.tbls (fun m' hm => by
    obtain ⟨o', es', ep', ho', r'⟩ := hm
    rw [ho] at ho'; cases ho'
    exact ⟨_, es', ep', hL, r'⟩) hok I.bare
theorem Inv.call {g' : Array GenState} {t' : Nat} {d' : Drawn} {ch : List Addr} (I : Inv X pins σ H s) (u : Un (frs X.stack) ch H H' s.heap h') (hok : HOk X.prog X.w H' h') (hg : AllBare g')
    (hch : ∀ b ∈ ch, (b ∈ X.ex ∨ X.s_0.heap.objs.size ≤ b) ∧ b ≠ X.env.locals ∧ (∀ x c, X.env.cells.lookup x = some c → c ≠ b) ∧ ∀ p ∈ X.pn ++ pins, p.1 ≠ b) :
    Inv X pins σ H' { s with heap := h', gens := g', drawn := d', toks := t' } := by
  obtain ⟨m, ⟨o, es, ep, ho, r⟩, _⟩ := id I.loc
  obtain ⟨sl, hL⟩ := u.any ho I.free fun z => (hch _ z).2.1 rfl
  exact I.step (ch := ch) hch (fun b o hL hb hc e n => u.keep b o e n (fun z => (List.mem_cons.mp (I.stkSub b z)).elim hL hb) hc) (fun b o _ _ hc e n => u.any e n hc) (fun b o hc e n => u.free b o e n hc) (fun b o hc e => u.there b o e hc) u.tups u.frzs u.tbls (fun m' hm => by
    obtain ⟨o', es', ep', ho', r'⟩ := hm
    rw [ho] at ho'; cases ho'
    exact ⟨_, es', ep', hL, r'⟩) hok hg
theorem Inv.turned {t' : Nat} {it : Addr} (I : Inv X pins σ H s) (k : ∀ b o, b ≠ it → s.heap.get? b = some o → h'.get? b = some o) (hn : H it = none) (hL : it ≠ X.env.locals)
    (h1 : it ∈ X.ex ∨ X.s_0.heap.objs.size ≤ it) (h2 : ∀ x c, X.env.cells.lookup x = some c → c ≠ it) (h3 : ∀ p ∈ X.pn ++ pins, p.1 ≠ it) : Inv X pins σ H { s with heap := h', toks := t' } := by
  have nit : ∀ b u, H b = some u → b ≠ it := fun b u e z => by rw [z, hn] at e; cases e
  refine I.step (g' := s.gens) (d' := s.drawn) (ch := [it]) (fun b hb => ?_) (fun b o _ _ hc e _ => k b o (fun z => hc (by simp [z])) e) (fun b o _ _ hc e _ => ⟨o.slots, k b o (fun z => hc (by simp [z])) e⟩) (fun _ _ _ _ n => n)
    (fun b o hc e => ⟨o, k b o (fun z => hc (by simp [z])) e⟩) (fun _ _ e => e) (fun _ _ _ e => e) (fun b ps e => ⟨#[], by rw [e]; simp⟩) (fun m hm => ?_) (fun b u e => ?_) I.bare
  · have e : b = it := by simpa using hb
    subst e
    exact ⟨h1, hL, h2, h3⟩
  · obtain ⟨o, es, ep, ho, r⟩ := hm
    exact ⟨o, es, ep, k _ o (Ne.symm hL) ho, r⟩
  · refine (I.hok b u e).stay (fun c v hc q => k c v ?_ q) (fun _ q => q) fun _ _ q => q
    rcases hc with z | z
    · rw [z]; exact nit b u e
    · exact nit c _ z
theorem Inv.tok (I : Inv X pins σ H s) (t : Nat) : Inv X pins σ H { s with toks := t } := I.un (h' := s.heap) (t' := t) Un.refl I.hok
theorem Inv.kept {t' : Nat} (I : Inv X pins σ H s) (k : ∀ b u, s.heap.get? b = some u → h'.get? b = some u) : Inv X pins σ H { s with heap := h', toks := t' } := I.un (Un.kept k) (I.hok.kept k)
theorem Inv.laid {a : Addr} {o : HO} {t' : Nat} (I : Inv X pins σ H s) (k : ∀ b u, s.heap.get? b = some u → h'.get? b = some u) (hp : s.heap.objs.size ≤ a) (new : ObjOk X.prog X.w (upd H a o) h' a o) :
    Inv X pins σ (upd H a o) { s with heap := h', toks := t' } := I.un (Un.laid k hp (I.hok.fresh hp)) (I.hok.laid k hp new)
theorem Inv.write {x e : Addr} {o : HO} {t' : Nat} (I : Inv X pins σ H s) (mu : Mut (H x)) (he : e = x ∨ H e = some (.own x)) (k : ∀ b u, b ≠ e → s.heap.get? b = some u → h'.get? b = some u) (heo : ∃ u, h'.get? e = some u)
    (new : ObjOk X.prog X.w (upd H x o) h' x o) : Inv X pins σ (upd H x o) { s with heap := h', toks := t' } := I.un (Un.write mu he k heo) (I.hok.write mu he k heo new)
theorem Inv.weak {σ' : List (Option V)} (I : Inv X pins σ H s) (hl : σ'.length = σ.length) (w : ∀ (i : Nat) v, σ'[i]? = some (some v) → σ[i]? = some (some v)) : Inv X pins σ' H s :=
  ⟨I.ok, I.os, I.bare, I.base, let ⟨m, hn, hl'⟩ := I.loc; ⟨m, hn, fun i x v e1 e2 e3 => hl' i x v e1 (w i v e2) e3⟩, I.cell, I.free, I.freeC, I.pin, I.hok, hl.trans I.len⟩
theorem Inv.pins_of {pins' : List (Addr × Obj)} (I : Inv X pins σ H s) (h : ∀ p ∈ pins', s.heap.get? p.1 = some p.2 ∧ H p.1 = none ∧ p.1 ≠ X.env.locals ∧ p.1 ∉ X.fs ∧ ∀ v, p.2.data ≠ .cell v) : Inv X pins' σ H s :=
  ⟨I.ok, I.os, I.bare, I.base, I.loc, I.cell, I.free, I.freeC, fun p hp => (List.mem_append.mp hp).elim (fun z => I.pin p (List.mem_append_left _ z)) (h p), I.hok, I.len⟩
theorem nodup_ix {N : List Str} (hN : N.Nodup) {i j : Nat} {x : Str} (a : N[i]? = some x) (b : N[j]? = some x) : i = j := by
  obtain ⟨h1, e1⟩ := List.getElem?_eq_some_iff.mp a
  obtain ⟨h2, e2⟩ := List.getElem?_eq_some_iff.mp b
  exact (List.getElem_inj hN).mp (e1.trans e2.symm)
theorem store_ok2 {M : Model} {A : Around} {E : Value → Shared → Prop} {i : Nat} {x : Str} {v : V} {u : Value} {Q : Unit → Shared → Prop} (I : Inv X pins σ H s) (hN : X.N.Nodup) (hi : X.N[i]? = some x) (hx : Loc X.env.scope x) (r : RelV v u)
    (h : ∀ s', Inv X pins (σ.set i (some v)) H s' → (∃ a, Heap.SameBut a s.heap s'.heap ∧ (a = X.env.locals ∨ X.env.cells.lookup x = some a)) → Q () s') (hf : X.fn x = true ∨ X.env.scope.names.lookup x = some .local := by first | exact .inl rfl | exact .inr rfl | assumption) : wpAny M A (storeName X.env x u) Q E s := by
  obtain ⟨m, hn, hl⟩ := id I.loc
  have hcls : (X.env.scope.kind == .class || (X.env.scope.kind == .module && X.env.locals != X.env.globals)) = false := by rw [I.ok.kind]; rfl
  have hiσ : i < σ.length := by rw [I.len]; exact (List.getElem?_eq_some_iff.mp hi).1
  have cne := I.cne
  have tracked : ∀ {a : Addr} {h' : Heap}, (∃ o, s.heap.get? a = some o ∧ H a = none) → Heap.SameBut a s.heap h' → HOk X.prog X.w H h' := fun {a h'} ha hs b ob e => by
    obtain ⟨_, _, hfree⟩ := ha
    refine (I.hok b ob e).stay (fun c w' hc q => (hs.2 c ?_).trans q) (fun _ q => q) fun _ _ q => q
    rintro rfl
    rcases hc with rfl | hc
    · rw [hfree] at e; cases e
    · rw [hfree] at hc; cases hc
  rcases hx with hk | hk
  · refine wpAny_storeName_local hk hn (fun h' hn' hs => ?_) hcls
    obtain ⟨oL, _, _, hoL, _⟩ := id hn
    refine h _ ⟨I.ok, I.os, I.bare, ⟨fun b o e n hb hx => ?_, fun b o e n hb hx => ?_, I.base.free, fun b o e hx => ?_, I.base.tups, I.base.frzs, I.base.tbls⟩, ⟨_, hn', fun j y v' e1 e2 e3 => ?_⟩, fun y c e => ?_, I.free, I.freeC, fun p hp => ?_, tracked ⟨oL, hoL, I.free⟩ hs, by simpa using I.len⟩ ⟨_, hs, .inl rfl⟩
    · exact (hs.2 b (Nat.ne_of_lt (Nat.lt_of_lt_of_le (Heap.lt_size e) I.ok.above))).trans (I.base.keep b o e n hb hx)
    · obtain ⟨sl, e1⟩ := I.base.slot b o e n hb hx
      exact ⟨sl, (hs.2 b (Nat.ne_of_lt (Nat.lt_of_lt_of_le (Heap.lt_size e) I.ok.above))).trans e1⟩
    · obtain ⟨o', e1⟩ := I.base.there b o e hx
      exact ⟨o', (hs.2 b (Nat.ne_of_lt (Nat.lt_of_lt_of_le (Heap.lt_size e) I.ok.above))).trans e1⟩
    · by_cases hj : j = i
      · subst hj
        rw [hi] at e1; cases e1
        rw [List.getElem?_set_self hiσ] at e2
        cases e2
        exact ⟨u, r, .inl ⟨hk, by simp⟩⟩
      · rw [List.getElem?_set_ne (Ne.symm hj)] at e2
        obtain ⟨u', r', q⟩ := hl j y v' e1 e2 e3
        refine ⟨u', r', ?_⟩
        rcases q with ⟨k, e⟩ | ⟨k, c, e, z⟩
        · refine .inl ⟨k, ?_⟩
          have : y ≠ x := fun e => hj (nodup_ix hN e1 (e ▸ hi))
          simp [this, e]
        · exact .inr ⟨k, c, e, z.sameBut hs (cne y c e)⟩
    · obtain ⟨w', z⟩ := I.cell y c e
      exact ⟨w', z.sameBut hs (cne y c e)⟩
    · obtain ⟨e, n, ne, nf, d⟩ := I.pin p hp
      exact ⟨(hs.2 p.1 ne).trans e, n, ne, nf, d⟩
  · have hfn : X.fn x = true := by
      rcases hf with z | z
      · exact z
      · rw [z] at hk; cases hk
    obtain ⟨c, hc⟩ := I.ok.has x (.inl hk)
    obtain ⟨w', z⟩ := I.cell x c hc
    refine wpAny_storeName_cell I.ok.kind hk hc z (fun h' hc' hs => ?_)
    obtain ⟨oc, hoc, hocd⟩ := id z
    refine h { s with heap := h' } ⟨I.ok, I.os, I.bare, ⟨fun b o e n hb hx => ?_, fun b o e n hb hx => ?_, I.base.free, fun b o e hx => ?_, I.base.tups, I.base.frzs, I.base.tbls⟩, ⟨m, hn.sameBut hs (Ne.symm (cne x c hc)), fun j y v' e1 e2 e3 => ?_⟩, fun y c' e => ?_, I.free, I.freeC, fun p hp => ?_, tracked ⟨oc, hoc, I.freeC x c hc⟩ hs, by simpa using I.len⟩ ⟨c, hs, .inr hc⟩
    · exact (hs.2 b (Nat.ne_of_lt (Nat.lt_of_lt_of_le (Heap.lt_size e) (I.ok.cab x c hfn hc)))).trans (I.base.keep b o e n hb hx)
    · obtain ⟨sl, e1⟩ := I.base.slot b o e n hb hx
      exact ⟨sl, (hs.2 b (Nat.ne_of_lt (Nat.lt_of_lt_of_le (Heap.lt_size e) (I.ok.cab x c hfn hc)))).trans e1⟩
    · obtain ⟨o', e1⟩ := I.base.there b o e hx
      exact ⟨o', (hs.2 b (Nat.ne_of_lt (Nat.lt_of_lt_of_le (Heap.lt_size e) (I.ok.cab x c hfn hc)))).trans e1⟩
    · by_cases hj : j = i
      · subst hj
        rw [hi] at e1; cases e1
        rw [List.getElem?_set_self hiσ] at e2
        cases e2
        exact ⟨u, r, .inr ⟨.inl hk, c, hc, hc'⟩⟩
      · rw [List.getElem?_set_ne (Ne.symm hj)] at e2
        obtain ⟨u', r', q⟩ := hl j y v' e1 e2 e3
        refine ⟨u', r', ?_⟩
        rcases q with q | ⟨k, c', e, z'⟩
        · exact .inl q
        · refine .inr ⟨k, c', e, z'.sameBut hs ?_⟩
          rintro rfl
          exact hj (nodup_ix hN e1 (I.ok.inj _ _ _ e hc ▸ hi))
    · by_cases hcc : c' = c
      · subst hcc; exact ⟨_, hc'⟩
      · obtain ⟨w2, z2⟩ := I.cell y c' e
        exact ⟨w2, z2.sameBut hs hcc⟩
    · obtain ⟨e, n, ne, nf, d⟩ := I.pin p hp
      refine ⟨(hs.2 p.1 ?_).trans e, n, ne, nf, d⟩
      intro q
      rw [q, hoc] at e
      have q' : oc = p.2 := Option.some.inj e
      exact d w' (by rw [← q']; exact hocd)
theorem store_ok {M : Model} {A : Around} {E : Value → Shared → Prop} {i : Nat} {x : Str} {v : V} {u : Value} {Q : Unit → Shared → Prop} (I : Inv X pins σ H s) (hN : X.N.Nodup) (hi : X.N[i]? = some x) (hx : Loc X.env.scope x) (r : RelV v u)
    (h : ∀ s', Inv X pins (σ.set i (some v)) H s' → Q () s') (hf : X.fn x = true ∨ X.env.scope.names.lookup x = some .local := by first | exact .inl rfl | exact .inr rfl | assumption) : wpAny M A (storeName X.env x u) Q E s :=
  store_ok2 I hN hi hx r (fun s' I' _ => h s' I') hf
theorem Inv.call' {s' : Shared} {ch : List Addr} (I : Inv X pins σ H s) (ho : s'.os = s.os) (u : Un (frs X.stack) ch H H' s.heap s'.heap) (hok : HOk X.prog X.w H' s'.heap) (hg : AllBare s'.gens)
    (hch : ∀ b ∈ ch, (b ∈ X.ex ∨ X.s_0.heap.objs.size ≤ b) ∧ b ≠ X.env.locals ∧ (∀ x c, X.env.cells.lookup x = some c → c ≠ b) ∧ ∀ p ∈ X.pn ++ pins, p.1 ≠ b) : Inv X pins σ H' s' := by
  obtain ⟨h', g', d', t', o'⟩ := s'
  have e : o' = s.os := ho
  subst e
  exact I.call (g' := g') (t' := t') (d' := d') u hok hg hch
end
abbrev XK := Value → Option Addr → Hp → Prop
abbrev St := List (Option V)
abbrev VK := V → Hp → Prop
abbrev TE := St → Hp → VK → Prop
abbrev TT := St → Hp → (Bool → Hp → Prop) → Prop
abbrev TA := St → Hp → (List V → Hp → Prop) → Prop
structure Ends where
  nx : St → Hp → Prop
  rt : VK
  bk : St → Hp → Prop := fun _ _ => False
  ct : St → Hp → Prop := fun _ _ => False
abbrev TS := Ends → St → Hp → Prop
def EP (X : Cx) (pins : List (Addr × Obj)) (σ : St) (Q : VK) (u : Value) (s' : Shared) : Prop := ∃ v H', Inv X pins σ H' s' ∧ RelV v u ∧ Q v H'
def TP (X : Cx) (pins : List (Addr × Obj)) (σ : St) (Q : Bool → Hp → Prop) (b : Bool) (s' : Shared) : Prop := ∃ H', Inv X pins σ H' s' ∧ Q b H'
def AP (X : Cx) (pins : List (Addr × Obj)) (σ : St) (Q : List V → Hp → Prop) (us : List Value) (s' : Shared) : Prop := ∃ vs H', Inv X pins σ H' s' ∧ Vals vs us ∧ Q vs H'
def SP (X : Cx) (pins : List (Addr × Obj)) (D : Ends) (f : Flow) (s' : Shared) : Prop :=
  match f with
  | .next => ∃ σ' H', Inv X pins σ' H' s' ∧ D.nx σ' H'
  | .brk => ∃ σ' H', Inv X pins σ' H' s' ∧ D.bk σ' H'
  | .cont => ∃ σ' H', Inv X pins σ' H' s' ∧ D.ct σ' H'
  | .ret u => ∃ v σ' H', Inv X pins σ' H' s' ∧ RelV v u ∧ D.rt v H'
def PE (X : Cx) (e : Expr) (t : TE) : Prop :=
  ∀ (pins : List (Addr × Obj)) (s : Shared) (σ : St) (H : Hp) (Q : VK), Inv X pins σ H s → t σ H Q → wpAny (model X.prog X.w) X.A (eval e X.env) (EP X pins σ Q) X.xe s
def PT (X : Cx) (e : Expr) (t : TT) : Prop :=
  ∀ (pins : List (Addr × Obj)) (s : Shared) (σ : St) (H : Hp) (Q : Bool → Hp → Prop), Inv X pins σ H s → t σ H Q → wpAny (model X.prog X.w) X.A (isTrue e X.env (eval e X.env)) (TP X pins σ Q) X.xe s
def PW (X : Cx) (e : Expr) (t : TT) : Prop :=
  ∀ (whole : Sem Value) (pins : List (Addr × Obj)) (s : Shared) (σ : St) (H : Hp) (Q : Bool → Hp → Prop), Inv X pins σ H s → t σ H Q → wpAny (model X.prog X.w) X.A (isTrue e X.env whole) (TP X pins σ Q) X.xe s
theorem PW.pt {X : Cx} {e : Expr} {t : TT} (h : PW X e t) : PT X e t := h _
def PA (X : Cx) (es : List Expr) (t : TA) : Prop :=
  ∀ (pos : Pos) (pins : List (Addr × Obj)) (s : Shared) (σ : St) (H : Hp) (Q : List V → Hp → Prop), Inv X pins σ H s → t σ H Q → wpAny (model X.prog X.w) X.A (spliced (backTo pos (starEach es X.env))) (AP X pins σ Q) X.xe s
def PS (X : Cx) (st : Stmt) (t : TS) : Prop :=
  ∀ (pins : List (Addr × Obj)) (s : Shared) (σ : St) (H : Hp) (D : Ends), Inv X pins σ H s → t D σ H → wpAny (model X.prog X.w) X.A (exec st X.env) (SP X pins D) X.xe s
def PSs (X : Cx) (st : List Stmt) (t : TS) : Prop :=
  ∀ (pins : List (Addr × Obj)) (s : Shared) (σ : St) (H : Hp) (D : Ends), Inv X pins σ H s → t D σ H → wpAny (model X.prog X.w) X.A (execs st X.env) (SP X pins D) X.xe s
theorem thn {α : Type} {t : Sem α} {Q Q' : α → Shared → Prop} {M : Model} {A : Around} {E : Value → Shared → Prop} {s : Shared} (h : wpAny M A t Q E s) (hQ : ∀ a s, Q a s → Q' a s) : wpAny M A t Q' E s := wpAny_mono h hQ fun _ _ x => x
end L2
namespace L2
open PySem PySem.Spec PyProof.Rows
section
variable {X : Cx}
def tVar (i : Nat) : TE := fun σ H Q => ∃ v, σ[i]? = some (some v) ∧ Q v H
def tC (v : V) : TE := fun _ H Q => Q v H
theorem pe_var {i : Nat} {x : Str} {pos : Pos} (hN : X.N[i]? = some x) (hv : Vis X.env.scope x) (hd : (x == ("__debug__" : Str)) = false := by decide) (hcd : (x == ("__classdict__" : Str)) = false := by decide) : PE X (.Name x pos) (tVar i) := by
  intro pins s σ H Q I h
  obtain ⟨v, e, h⟩ := h
  obtain ⟨m, hn, hl⟩ := I.loc
  obtain ⟨u, r, l⟩ := hl i x v hN e hv
  have fin : EP X pins σ Q u s := ⟨v, H, I, r, h⟩
  rcases l with ⟨hk, hm⟩ | ⟨hk, c, hc, hcell⟩
  · exact wpAny_Name (wpAny_loadName_local I.ok.kind hk hn hm fin) hd
  · rcases hk with hk | hk
    · exact wpAny_Name (wpAny_loadName_cell I.ok.kind hk hc hcell fin) hd
    · exact wpAny_Name (wpAny_loadName_free I.ok.kind hk hc hcell fin hcd) hd
theorem pe_int {i j pos} : PE X (.Constant (.int i) j pos) (tC (.int i)) := fun _ _ _ H _ I h => wpAny_Constant_int ⟨.int i, H, I.tok _, ⟨_, rfl⟩, h⟩
theorem pe_str {x j pos} : PE X (.Constant (.str x) j pos) (tC (.str x)) := fun _ _ _ H _ I h => Calls.Constant_str ⟨.str x, H, I.tok _, ⟨_, rfl⟩, h⟩
def Gl (X : Cx) (x : Str) : Prop := X.env.kindOf x = some .globalImplicit
theorem ld_glob {E : Value → Shared → Prop} {pins : List (Addr × Obj)} {s : Shared} {σ : St} {H : Hp} {x : Str} {u : Value} {pos : Pos} {Q : Value → Shared → Prop} (I : Inv X pins σ H s) (hg : Gl X x) (hm : X.mg x = some u) (h : Q u s)
    (hd : (x == ("__debug__" : Str)) = false := by decide) : wpAny (model X.prog X.w) X.A (eval (.Name x pos) X.env) Q E s :=
  Calls.Name_function_global I.ok.kind hg (Calls.loadGlobal_global (by rw [I.ok.glob]; exact I.mod.glob.keeps I.bk) hm h) hd
theorem ld_blt {E : Value → Shared → Prop} {pins : List (Addr × Obj)} {s : Shared} {σ : St} {H : Hp} {x : Str} {u : Value} {pos : Pos} {Q : Value → Shared → Prop} (I : Inv X pins σ H s) (hg : Gl X x) (hm : X.mg x = none) (hv : bootBuiltins x = some u) (h : Q u s)
    (hn : x ≠ "__name__" := by decide) (hd : (x == ("__debug__" : Str)) = false := by decide) : wpAny (model X.prog X.w) X.A (eval (.Name x pos) X.env) Q E s := by
  obtain ⟨mb, h1, h2⟩ := I.mod.blt
  exact Calls.Name_function_global I.ok.kind hg (Calls.loadGlobal_builtin (by rw [I.ok.glob]; exact I.mod.glob.keeps I.bk) hm (by rw [I.ok.blt]; exact h1.keeps I.bk) ((h2 x hn).trans hv) h) hd
theorem pe_glob {x : Str} {v : V} {u : Value} {pos : Pos} (hg : Gl X x) (hm : X.mg x = some u) (r : RelV v u) (hd : (x == ("__debug__" : Str)) = false := by decide) : PE X (.Name x pos) (tC v) :=
  fun _ _ _ H _ I h => ld_glob I hg hm ⟨v, H, I, r, h⟩ hd
variable {a b : Expr} {ta tb : TE} {pos : Pos}
def tB (t : TE) : TT := fun σ H Q => t σ H fun x H1 => ∃ c, x = .bl c ∧ Q c H1
theorem pt_val {e : Expr} {t : TE} (h : PE X e t) (he : ∀ whole, isTrue e X.env whole = (do let v ← whole; standAt e.pos; holding [v] (truthy v)) := by intro _; rfl) : PT X e (tB t) := by
  intro pins s σ H Q I hw
  refine isTrue_plain (thn (h pins s σ H _ I hw) fun v s1 ⟨x, H1, I1, r1, q1⟩ => ?_) (he _)
  obtain ⟨d, rfl, q⟩ := q1
  cases r1
  exact wpAny_truthy_bool ⟨H1, I1, q⟩
variable {tA tB' : TT} {rest : List Expr}
def tAnd (t u : TT) : TT := fun σ H Q => t σ H fun c H1 => if c = true then u σ H1 Q else Q false H1
def tNot (t : TT) : TT := fun σ H Q => t σ H fun c H1 => Q (!c) H1
theorem pw_and1 (ha : PT X a tA) : PW X (.BoolOp .And [a] pos) tA := by
  intro wh pins s σ H Q I h
  refine isTrue_and (thn (ha pins s σ H Q I h) fun c s1 e => ?_)
  cases c with
  | true => exact isTrue_and_nil e
  | false => exact e
theorem pw_and (ha : PT X a tA) (hb : PW X (.BoolOp .And (b :: rest) pos) tB') : PW X (.BoolOp .And (a :: b :: rest) pos) (tAnd tA tB') := by
  intro wh pins s σ H Q I h
  refine isTrue_and (thn (ha pins s σ H _ I h) fun c s1 ⟨H1, I1, q1⟩ => ?_)
  cases c with
  | true => exact hb wh pins s1 σ H1 Q I1 q1
  | false => exact ⟨H1, I1, q1⟩
theorem pt_not (ha : PT X a tA) : PT X (.UnaryOp .Not a pos) (tNot tA) := by
  intro pins s σ H Q I h
  exact isTrue_not (ha pins s σ H (fun c H1 => Q (!c) H1) I h)
def tAndV (ta tb : TE) : TE := fun σ H Q => ta σ H fun x H1 => ∃ c, x = .bl c ∧ if c = true then tb σ H1 Q else Q (.bl false) H1
def tOrV (ta tb : TE) : TE := fun σ H Q => ta σ H fun x H1 => ∃ c, x = .bl c ∧ if c = true then Q (.bl true) H1 else tb σ H1 Q
theorem pe_one {op} {t : TE} (h : PE X a t) : PE X (.BoolOp op [a] pos) t := fun pins s σ H Q I hw => BoolOp_one (h pins s σ H Q I hw)
theorem pe_and (ha : PE X a ta) (hb : PE X (.BoolOp .And (b :: rest) pos) tb) : PE X (.BoolOp .And (a :: b :: rest) pos) (tAndV ta tb) := by
  intro pins s σ H Q I h
  refine BoolOp_and (thn (ha pins s σ H _ I h) fun v s1 ⟨x, H1, I1, r1, q1⟩ => ?_)
  obtain ⟨c, rfl, q1⟩ := q1
  cases r1
  refine wpAny_truthy_bool ?_
  cases c with
  | true => exact hb pins s1 σ H1 Q I1 q1
  | false => exact ⟨.bl false, H1, I1, rfl, q1⟩
theorem pe_or (ha : PE X a ta) (hb : PE X (.BoolOp .Or (b :: rest) pos) tb) : PE X (.BoolOp .Or (a :: b :: rest) pos) (tOrV ta tb) := by
  intro pins s σ H Q I h
  refine BoolOp_or (thn (ha pins s σ H _ I h) fun v s1 ⟨x, H1, I1, r1, q1⟩ => ?_)
  obtain ⟨c, rfl, q1⟩ := q1
  cases r1
  refine wpAny_truthy_bool ?_
  cases c with
  | false => exact hb pins s1 σ H1 Q I1 q1
  | true => exact ⟨.bl true, H1, I1, rfl, q1⟩
def tIf (t : TT) (ta tb : TE) : TE := fun σ H Q => t σ H fun c H1 => if c = true then ta σ H1 Q else tb σ H1 Q
theorem pe_ifExp {c : Expr} (hc : PT X c tA) (ha : PE X a ta) (hb : PE X b tb) : PE X (.IfExp c a b pos) (tIf tA ta tb) := by
  intro pins s σ H Q I h
  refine wpAny_IfExp (thn (hc pins s σ H _ I h) fun d s1 ⟨H1, I1, q1⟩ => ?_)
  cases d with
  | true => exact ha pins s1 σ H1 Q I1 q1
  | false => exact hb pins s1 σ H1 Q I1 q1
end
end L2
namespace L2
open PySem PySem.Spec PyProof.Rows
def SqL (K : PySem.W.Frag) (H : Hp) (a : Addr) (xs : List V) : Prop :=
  Rd H a (.lst xs) ∨
    ∃ (o : Obj) (its : Array Value) (n : Nat), K.lookup a = some o ∧ o.cls = .type "list" ∧ o.dict = none ∧ o.data = .seq its n ∧ its.size ≤ sizeLine ∧ Vals xs its.toList
def SqT (K : PySem.W.Frag) (H : Hp) (a : Addr) (xs : List V) : Prop :=
  Rd H a (.tup xs) ∨
    ∃ (o : Obj) (its : Array Value) (n : Nat), K.lookup a = some o ∧ o.cls = .type "tuple" ∧ o.data = .seq its n ∧ its.size ≤ sizeLine ∧ Vals xs its.toList
def absV : Value → Option V
  | .none => some .non
  | .bool b => some (.bl b)
  | .int i _ => some (.int i)
  | .str x _ => some (.str x)
  | .bytes b _ => some (.byt b)
  | .float b _ => some (.flt b)
  | .ref a => some (.ref a)
  | .type n => some (.ty n)
  | _ => none
theorem RelV.abs {x : V} {u : Value} (r : RelV x u) : absV u = some x := by
  cases x with
  | non => cases r; rfl
  | bl _ => cases r; rfl
  | int _ => obtain ⟨t, rfl⟩ := r; rfl
  | str _ => obtain ⟨t, rfl⟩ := r; rfl
  | byt _ => obtain ⟨t, rfl⟩ := r; rfl
  | flt _ => obtain ⟨t, rfl⟩ := r; rfl
  | ref _ => cases r; rfl
  | ty _ => cases r; rfl
theorem RelV.inj {x y : V} {u : Value} (r : RelV x u) (q : RelV y u) : x = y := Option.some.inj (r.abs.symm.trans q.abs)
theorem Vals.inj : ∀ {xs ys : List V} {us : List Value}, Vals xs us → Vals ys us → xs = ys
  | _, _, _, .nil, .nil => rfl
  | _, _, _, .cons r t, .cons r' t' => by rw [r.inj r', Vals.inj t t']
section
variable {X : Cx} {pins : List (Addr × Obj)} {σ : St} {H : Hp} {s : Shared} {a : Addr} {xs ys : List V}
theorem SqL.of {K : PySem.W.Frag} (h : H a = some (.lst xs)) : SqL K H a xs := .inl (.inl h)
theorem SqT.of {K : PySem.W.Frag} (h : H a = some (.tup xs)) : SqT K H a xs := .inl (.inl h)
theorem Inv.list (I : Inv X pins σ H s) (h : SqL X.K H a xs) : ∃ its : List Value, Vals xs its ∧ PlainL s.heap a its.toArray ∧ xs.length ≤ sizeLine := by
  rcases h with h | ⟨o, its, n, hk, hc, hd, hs, hz, r⟩
  · obtain ⟨z, its, n, r, e⟩ := h.ok I.hok
    exact ⟨its, r, ⟨_, n, e, rfl, rfl, rfl⟩, z⟩
  · refine ⟨its.toList, r, ⟨o, n, I.kIn a o hk, hc, hd, by simpa using hs⟩, ?_⟩
    have e := r.length
    simp only [Array.length_toList] at e
    omega
theorem Inv.tuple (I : Inv X pins σ H s) (h : SqT X.K H a xs) : ∃ its : List Value, Vals xs its ∧ IsTup s.heap a its.toArray ∧ xs.length ≤ sizeLine := by
  rcases h with h | ⟨o, its, n, hk, hc, hs, hz, r⟩
  · obtain ⟨z, its, r, p⟩ := h.ok I.hok
    exact ⟨its, r, p, z⟩
  · refine ⟨its.toList, r, ⟨o, I.kIn a o hk, hc, n, by simpa using hs⟩, ?_⟩
    have e := r.length
    simp only [Array.length_toList] at e
    omega
theorem Inv.list_inj (I : Inv X pins σ H s) (h : SqL X.K H a xs) (h' : SqL X.K H a ys) : xs = ys := by
  obtain ⟨its, r, ⟨o, n, e, _, _, d⟩, _⟩ := I.list h
  obtain ⟨its', r', ⟨o', n', e', _, _, d'⟩, _⟩ := I.list h'
  rw [e] at e'; cases e'
  rw [d] at d'
  injection d' with d1 _
  have : its = its' := by simpa using congrArg Array.toList d1
  subst this
  exact r.inj r'
end
abbrev Cx.wish (X : Cx) (E : Value → Shared → Prop) : Cx := { X with xe := E }
abbrev Cx.nox (X : Cx) : Cx := X.wish fun _ _ => False
theorem Cx.Ok.wish {X : Cx} (ok : X.Ok) (E : Value → Shared → Prop) : (X.wish E).Ok :=
  ⟨ok.mod, ok.kind, ok.glob, ok.blt, ok.above, ok.inj, ok.has, ok.cab, ok.hd, ok.frames, ok.stk, ok.exf, ok.bs, ok.bsz, ok.noex, ok.exfs, ok.funs, ok.frf⟩
theorem Cx.Ok.unwish {X : Cx} {E : Value → Shared → Prop} (ok : (X.wish E).Ok) : X.Ok :=
  ⟨ok.mod, ok.kind, ok.glob, ok.blt, ok.above, ok.inj, ok.has, ok.cab, ok.hd, ok.frames, ok.stk, ok.exf, ok.bs, ok.bsz, ok.noex, ok.exfs, ok.funs, ok.frf⟩
section
variable {X : Cx} {pins : List (Addr × Obj)} {σ : St} {H : Hp} {s : Shared} {E : Value → Shared → Prop}
theorem Inv.wish (I : Inv X pins σ H s) (E : Value → Shared → Prop) : Inv (X.wish E) pins σ H s := ⟨I.ok.wish E, I.os, I.bare, I.base, I.loc, I.cell, I.free, I.freeC, I.pin, I.hok, I.len⟩
theorem Inv.unwish (I : Inv (X.wish E) pins σ H s) : Inv X pins σ H s := ⟨I.ok.unwish, I.os, I.bare, I.base, I.loc, I.cell, I.free, I.freeC, I.pin, I.hok, I.len⟩
theorem SP.unwish {D : Ends} {f : Flow} {s' : Shared} (h : SP (X.wish E) pins D f s') : SP X pins D f s' := by
  cases f with
  | next => obtain ⟨σ', H', I, q⟩ := h; exact ⟨σ', H', I.unwish, q⟩
  | brk => obtain ⟨σ', H', I, q⟩ := h; exact ⟨σ', H', I.unwish, q⟩
  | cont => obtain ⟨σ', H', I, q⟩ := h; exact ⟨σ', H', I.unwish, q⟩
  | ret u => obtain ⟨v, σ', H', I, r, q⟩ := h; exact ⟨v, σ', H', I.unwish, r, q⟩
theorem PSs.nox {st : List Stmt} {t : TS} (h : PSs X.nox st t) : PSs X st t := fun pins s σ H D I hw =>
  wpAny_mono (h pins s σ H D (I.wish _) hw) (fun _ _ q => q.unwish) fun _ _ z => False.elim z
end
section
variable {X : Cx} {st : Stmt} {rest : List Stmt} {t u : TS} {e : Expr} {te : TE} {pos : Pos}
def tNext : TS := fun D σ H => D.nx σ H
def tSeq (t u : TS) : TS := fun D σ H => t { D with nx := u D } σ H
theorem pss_nil : PSs X [] tNext := fun _ _ σ H _ I h => wpAny_execs_nil ⟨σ, H, I, h⟩
theorem pss_cons (h1 : PS X st t) (h2 : PSs X rest u) : PSs X (st :: rest) (tSeq t u) := by
  intro pins s σ H D I h
  refine wpAny_execs_cons (thn (h1 pins s σ H { D with nx := u D } I h) fun f s1 q => ?_)
  cases f with
  | next =>
    obtain ⟨σ', H', I', q⟩ := q
    exact h2 pins s1 σ' H' D I' q
  | ret v => exact q
  | brk => exact q
  | cont => exact q
theorem pss_one (h1 : PS X st t) : PSs X [st] t := by
  intro pins s σ H D I h
  refine wpAny_execs_cons (thn (h1 pins s σ H D I h) fun f s1 q => ?_)
  cases f with
  | next => exact wpAny_execs_nil q
  | ret v => exact q
  | brk => exact q
  | cont => exact q
theorem Inv.quiet {pins : List (Addr × Obj)} {σ : St} {H : Hp} {s : Shared} (I : Inv X pins σ H s) : interactive X.env = false := by simp [interactive, I.ok.kind]
def tDrop (te : TE) : TS := fun D σ H => te σ H fun _ H1 => D.nx σ H1
theorem ps_expr (he : PE X e te) (hs : swapsWith e none pos.line X.env = pure false := by rfl) : PS X (.Expr e pos) (tDrop te) := by
  intro pins s σ H D I h
  exact wpAny_Expr_any (thn (he pins s σ H _ I h) fun v s1 ⟨x, H1, I1, r1, q1⟩ => ⟨σ, H1, I1, q1⟩) I.quiet hs
def tRet (te : TE) : TS := fun D σ H => te σ H D.rt
theorem ps_ret (he : PE X e te) : PS X (.Return (some e) pos) (tRet te) := by
  intro pins s σ H D I h
  exact wpAny_Return_some (thn (he pins s σ H _ I h) fun v s1 ⟨x, H1, I1, r1, q1⟩ => ⟨x, σ, H1, I1, r1, q1⟩)
def tIfS (c : TT) (t u : TS) : TS := fun D σ H => c σ H fun b H1 => if b = true then t D σ H1 else u D σ H1
theorem ps_if {c : Expr} {a b : List Stmt} {tc : TT} (hc : PT X c tc) (ha : PSs X a t) (hb : PSs X b u) : PS X (.If c a b pos) (tIfS tc t u) := by
  intro pins s σ H D I h
  refine wpAny_If (thn (hc pins s σ H _ I h) fun d s1 ⟨H1, I1, q1⟩ => ?_)
  cases d with
  | true => exact ha pins s1 σ H1 D I1 q1
  | false => exact hb pins s1 σ H1 D I1 q1
end
abbrev TG := V → St → Hp → (St → Hp → Prop) → Prop
abbrev TGs := List V → St → Hp → (St → Hp → Prop) → Prop
def PG (X : Cx) (target : Expr) (t : TG) : Prop :=
  ∀ (pins : List (Addr × Obj)) (s : Shared) (σ : St) (H : Hp) (v : V) (u : Value) (Q : St → Hp → Prop), Inv X pins σ H s → RelV v u → t v σ H Q →
    wpAny (model X.prog X.w) X.A (assign target X.env u) (fun _ s' => ∃ σ' H', Inv X pins σ' H' s' ∧ Q σ' H') X.xe s
def PGs (X : Cx) (ts : List Expr) (t : TGs) : Prop :=
  ∀ (pins : List (Addr × Obj)) (s : Shared) (σ : St) (H : Hp) (vs : List V) (us : List Value) (Q : St → Hp → Prop), Inv X pins σ H s → Vals vs us → t vs σ H Q →
    wpAny (model X.prog X.w) X.A (assignInOrder ((assignEach ts X.env).map (·.2)) us) (fun _ s' => ∃ σ' H', Inv X pins σ' H' s' ∧ Q σ' H') X.xe s
abbrev TSet := V → V → V → Hp → (Hp → Prop) → Prop
def PSet (X : Cx) (t : TSet) : Prop :=
  ∀ (pins : List (Addr × Obj)) (s : Shared) (σ : St) (H : Hp) (o i v : V) (ov iv u : Value) (Q : Hp → Prop), Inv X pins σ H s → RelV o ov → RelV i iv → RelV v u → t o i v H Q →
    wpAny (model X.prog X.w) X.A (setItem ov iv u) (fun _ s' => ∃ H', Inv X pins σ H' s' ∧ Q H') X.xe s
section
variable {X : Cx} {pos : Pos}
def gName (i : Nat) : TG := fun v σ H Q => Q (σ.set i (some v)) H
theorem pg_name {i : Nat} {x : Str} (hN : X.N.Nodup) (hi : X.N[i]? = some x) (hx : Loc X.env.scope x) (hf : X.fn x = true ∨ X.env.scope.names.lookup x = some .local := by first | exact .inl rfl | exact .inr rfl | assumption) : PG X (.Name x pos) (gName i) := by
  intro pins s σ H v u Q I r h
  exact wpAny_assign_Name (store_ok I hN hi hx r (fun s' I' => ⟨_, H, I', h⟩) hf)
def gNil : TGs := fun vs σ H Q => vs = [] ∧ Q σ H
def gCons (t : TG) (u : TGs) : TGs := fun vs σ H Q => ∃ v r, vs = v :: r ∧ t v σ H fun σ' H' => u r σ' H' Q
theorem pgs_nil : PGs X [] gNil := by
  intro pins s σ H vs us Q I r h
  obtain ⟨e, h⟩ := h
  subst e
  cases r
  exact assignInOrder_nil ⟨σ, H, I, h⟩
theorem pgs_cons {e : Expr} {es : List Expr} {t : TG} {u : TGs} (h1 : PG X e t) (h2 : PGs X es u)
    (hs : (assignEach (e :: es) X.env).map (·.2) = assign e X.env :: (assignEach es X.env).map (·.2) := by rfl) : PGs X (e :: es) (gCons t u) := by
  intro pins s σ H vs us Q I r h
  obtain ⟨v, vr, e1, h⟩ := h
  subst e1
  cases r with
  | cons r rr =>
    rw [hs]
    refine assignInOrder_cons (thn (h1 pins s σ H _ _ _ I r h) fun _ s1 ⟨σ1, H1, I1, q1⟩ => ?_)
    exact h2 pins s1 σ1 H1 _ _ Q I1 rr q1
def gTup (K : PySem.W.Frag) (n : Nat) (t : TGs) : TG := fun v σ H Q => ∃ a xs, v = .ref a ∧ SqT K H a xs ∧ xs.length = n ∧ t xs σ H Q
theorem pg_tup {es : List Expr} {k : Nat} {t : TGs} {n : Nat} (hc : X.calm = true) (h : PGs X es t)
    (hn : (assignEach es X.env).length = n := by rfl) (hst : (assignEach es X.env).findIdx? (·.1) = none := by rfl) : PG X (.Tuple es k pos) (gTup X.K n t) := by
  intro pins s σ H v u Q I r hw
  obtain ⟨a, xs, e1, hq, hl, hw⟩ := hw
  subst e1
  cases r
  obtain ⟨its, rv, ht, hz⟩ := I.tuple hq
  refine assign_Tuple_tuple (I.ok.hd hc) ht (by simp [hn, ← hl, rv.length]) hst fun h' hx => ?_
  have I1 : Inv X pins σ H { s with heap := h' } := I.kept (t' := s.toks) fun b o e => hx b o (Nat.ne_of_lt (Heap.lt_size e)) e
  exact h pins _ σ H xs _ Q I1 (by simpa using rv) hw
def gSub (to ti : TE) (t : TSet) : TG := fun v σ H Q => to σ H fun o H1 => ti σ H1 fun i H2 => t o i v H2 fun H3 => Q σ H3
theorem pg_sub {o i : Expr} {to ti : TE} {t : TSet} (ho : PE X o to) (hi : PE X i ti) (hs : PSet X t)
    (ha : ∀ v, assign (.Subscript o i pos) X.env v = (do
      let ov ← holding [v] (eval o X.env)
      let iv ← holding [v, ov] (eval i X.env)
      standAt pos
      holding [v, ov, iv] (setItem ov iv v)
      release [v, ov, iv] []) := by intro _; rfl) : PG X (.Subscript o i pos) (gSub to ti t) := by
  intro pins s σ H v u Q I r h
  rw [ha]
  refine wpAny_bind (wpAny_holding (thn (ho pins s σ H _ I h) fun ov s1 ⟨x, H1, I1, r1, q1⟩ => ?_))
  refine wpAny_bind (wpAny_holding (thn (hi pins s1 σ H1 _ I1 q1) fun iv s2 ⟨y, H2, I2, r2, q2⟩ => ?_))
  refine wpAny_bind (wpAny_standAt (wpAny_bind (wpAny_holding (thn (hs pins s2 σ H2 x y v ov iv u _ I2 r1 r2 r q2) fun _ s3 ⟨H3, I3, q3⟩ => ?_))))
  exact wpAny_release ⟨σ, H3, I3, q3⟩
def tAsg (te : TE) (g : TG) : TS := fun D σ H => te σ H fun x H1 => g x σ H1 D.nx
theorem ps_asg {tg e : Expr} {te : TE} {g : TG} (he : PE X e te) (hg : PG X tg g) (hs : swapsWithSole [tg] e pos.line X.env = pure false := by rfl) (hw : swappedStores [tg] e X.env = pure none := by rfl)
    (h1 : (assignEach [tg] X.env).map (·.2) = [assign tg X.env] := by rfl) : PS X (.Assign [tg] e pos) (tAsg te g) := by
  intro pins s σ H D I h
  refine wpAny_Assign_stores (thn (he pins s σ H _ I h) fun v s1 ⟨x, H1, I1, r1, q1⟩ => ?_) hs hw
  rw [h1]
  exact thn (hg pins s1 σ H1 x v _ I1 r1 q1) fun _ s2 q => q
theorem ps_set {i : Nat} {x : Str} {e : Expr} {te : TE} {pos' : Pos} (hN : X.N.Nodup) (hi : X.N[i]? = some x) (hx : Loc X.env.scope x) (he : PE X e te) (hs : swapsWith e (some (.Name x pos')) pos.line X.env = pure false := by rfl) (hf : X.fn x = true ∨ X.env.scope.names.lookup x = some .local := by first | exact .inl rfl | exact .inr rfl | assumption) :
    PS X (.Assign [.Name x pos'] e pos) (tAsg te (gName i)) := by
  intro pins s σ H D I h
  refine wpAny_Assign_Name (thn (he pins s σ H _ I h) fun v s1 ⟨y, H1, I1, r1, q1⟩ => ?_) hs
  exact store_ok I1 hN hi hx r1 (fun s2 I2 => ⟨_, H1, I2, q1⟩) hf
end
section
variable {X : Cx} {pos : Pos}
def tWhile (c : TT) (tb : TS) : TS := fun D σ H => ∃ W : Nat → St → Hp → Prop, (∃ m, W m σ H) ∧ ∀ m σ H, W m σ H →
  c σ H fun b H1 => if b = true then ∃ N : St → Hp → Prop, (∀ σ' H', N σ' H' → ∃ m', m' < m ∧ W m' σ' H') ∧ tb { D with nx := N, ct := N, bk := D.nx } σ H1 else D.nx σ H1
theorem ps_while {c : Expr} {body : List Stmt} {tc : TT} {tb : TS} (hp : PassesOwn (model X.prog X.w) X.A X.env X.xe) (hc : PT X c tc) (hb : PSs X body tb) : PS X (.While c body [] pos) (tWhile tc tb) := by
  intro pins s σ H D I h
  obtain ⟨W, ⟨m0, w0⟩, turn⟩ := h
  refine wpAny_While (codeAny_whileLoop (fun n s' => ∃ σ' H', Inv X pins σ' H' s' ∧ W n σ' H') ?_ m0 ⟨σ, H, I, w0⟩)
  rintro n s1 ⟨σ1, H1, I1, w1⟩
  refine wpAny_passesOwn hp (thn (hc pins s1 σ1 H1 _ I1 (turn n σ1 H1 w1)) fun b s2 ⟨H2, I2, q2⟩ => ?_)
  cases b with
  | true =>
    obtain ⟨N, hN, q2⟩ := q2
    rw [if_pos rfl]
    refine wpAny_passesOwn hp (thn (hb pins s2 σ1 H2 _ I2 q2) fun f s3 q3 => ?_)
    cases f with
    | next =>
      obtain ⟨σ3, H3, I3, n3⟩ := q3
      obtain ⟨m', hm, w3⟩ := hN σ3 H3 n3
      exact ⟨m', hm, σ3, H3, I3, w3⟩
    | cont =>
      obtain ⟨σ3, H3, I3, n3⟩ := q3
      obtain ⟨m', hm, w3⟩ := hN σ3 H3 n3
      exact ⟨m', hm, σ3, H3, I3, w3⟩
    | brk => exact q3
    | ret v => exact q3
  | false =>
    rw [if_neg Bool.false_ne_true]
    exact wpAny_execs_nil ⟨σ1, H2, I2, q2⟩
end
structure It where
  go : Nat → Hp → Prop
  yld : Nat → Hp → V → Hp → Prop
  stop : Nat → Hp → Prop
def FpOk (X : Cx) (pins : List (Addr × Obj)) (H : Hp) (b : Addr) : Prop :=
  H b = none ∧ b ≠ X.env.locals ∧ b ∉ X.fs ∧ (b ∈ X.ex ∨ X.s_0.heap.objs.size ≤ b) ∧ (∀ x c, X.env.cells.lookup x = some c → c ≠ b) ∧ ∀ p ∈ X.pn ++ pins, p.1 ≠ b
theorem Inv.fpOk {X : Cx} {pins : List (Addr × Obj)} {σ : St} {H H' : Hp} {s : Shared} {b : Addr} (I : Inv X pins σ H s) (hb : s.heap.objs.size ≤ b) (hn : H' b = none) : FpOk X pins H' b := by
  refine ⟨hn, Nat.ne_of_gt (Nat.lt_of_lt_of_le I.lt hb), I.nofs hb, .inr (Nat.le_trans I.sz hb), fun x c e z => ?_, fun p hp z => ?_⟩
  · obtain ⟨v, q⟩ := I.cell x c e
    exact absurd (Nat.lt_of_lt_of_le q.lt (by rw [z]; exact hb)) (Nat.lt_irrefl _)
  · exact absurd (Nat.lt_of_lt_of_le (Heap.lt_size (I.pin p hp).1) (by rw [z]; exact hb)) (Nat.lt_irrefl _)
structure Turn (P : Program) (w : World) (K : PySem.W.Frag) (tg : Expr) (J : It) (fp : List Addr) (it : Addr) (tn : Nat → Heap → Prop) : Prop where
  mem : it ∈ fp
  obj : ∀ i h, tn i h → ∀ b ∈ fp, ∃ o, h.get? b = some o ∧ ∀ v, o.data ≠ .cell v
  keep : ∀ i h h', tn i h → (∀ b ∈ fp, ∀ o, h.get? b = some o → h'.get? b = some o) → tn i h'
  item : ∀ (X : Cx), X.prog = P → X.w = w → X.K = K → X.calm = true → ∀ (i : Nat) (pins : List (Addr × Obj)) (s : Shared) (σ : St) (H : Hp) (E : Value → Shared → Prop), Inv X pins σ H s → (∀ b ∈ fp, FpOk X pins H b) → tn i s.heap → J.go i H →
    wpAny (model P w) X.A (pyNext (.ref it)) (fun r s1 => ∃ u, r = some u ∧
      wpAny (model P w) X.A (letOwnedTupleGo tg (.ref it) u) (fun _ s2 => ∃ x H', Inv X pins σ H' s2 ∧ RelV x u ∧ J.yld i H x H' ∧ tn (i + 1) s2.heap ∧ ∀ b ∈ fp, H' b = none) E s1) E s
  done : ∀ (X : Cx), X.prog = P → X.w = w → X.K = K → X.calm = true → ∀ (i : Nat) (pins : List (Addr × Obj)) (s : Shared) (σ : St) (H : Hp) (E : Value → Shared → Prop), Inv X pins σ H s → (∀ b ∈ fp, FpOk X pins H b) → tn i s.heap → J.stop i H →
    wpAny (model P w) X.A (pyNext (.ref it)) (fun r s1 => r = none ∧ Inv X pins σ H s1) E s
  self : ∀ (A : Around) (i : Nat) (s : Shared) (Q : Value → Shared → Prop) (E : Value → Shared → Prop), tn i s.heap → Q (.ref it) s → wpAny (model P w) A (pyIter (.ref it)) Q E s
abbrev TI := St → Hp → (It → Hp → Prop) → Prop
def PIE (X : Cx) (pins : List (Addr × Obj)) (σ : St) (tg : Expr) (R : It → Hp → Prop) (itv : Value) (s2 : Shared) : Prop :=
  ∃ (it : Addr) (fp : List Addr) (tn : Nat → Heap → Prop) (J : It) (H' : Hp), itv = .ref it ∧ Inv X pins σ H' s2 ∧ Turn X.prog X.w X.K tg J fp it tn ∧ tn 0 s2.heap ∧ (∀ b ∈ fp, FpOk X pins H' b) ∧ R J H'
def PI (X : Cx) (tg iter : Expr) (wi : TI) : Prop :=
  ∀ (pins : List (Addr × Obj)) (s : Shared) (σ : St) (H : Hp) (R : It → Hp → Prop), Inv X pins σ H s → wi σ H R →
    wpAny (model X.prog X.w) X.A (eval iter X.env) (fun v s1 => wpAny (model X.prog X.w) X.A (pyIter v) (PIE X pins σ tg R) X.xe s1) X.xe s
theorem go_of {M : Model} {A : Around} {E : Value → Shared → Prop} {s : Shared} {tg : Expr} {it : Addr} {u : Value} {o : Obj} {n : String} {vs : Array Value} {Q : Unit → Shared → Prop} (ho : s.heap.get? it = some o) (hc : o.cls = .type n) (hd : o.data = .fields vs)
    (hn : ["enumerate", "zip", "dict_itemiterator", "dict_reverseitemiterator", "odict_iterator", "itertools.zip_longest", "itertools.pairwise"].contains n = false) (hQ : Q () s) : wpAny M A (letOwnedTupleGo tg (.ref it) u) Q E s := by
  unfold letOwnedTupleGo
  cases tg <;> first
    | exact wpAny_pure hQ
    | (cases u <;> first
        | exact wpAny_pure hQ
        | (refine wpAny_bind (wpAny_load ho ?_)
           rw [hc, hd]
           show wpAny M A (if (["enumerate", "zip", "dict_itemiterator", "dict_reverseitemiterator", "odict_iterator", "itertools.zip_longest", "itertools.pairwise"].contains n && vs[0]? == some (rawInt _)) = true then _ else _) Q E s
           rw [if_neg (by intro h; rw [hn, Bool.false_and] at h; cases h)]
           exact wpAny_pure hQ))
def Itl (K : PySem.W.Frag) (a : Addr) : It :=
  ⟨fun i H => ∃ xs x, SqL K H a xs ∧ xs[i]? = some x, fun i H x H' => H' = H ∧ ∀ xs, SqL K H a xs → xs[i]? = some x, fun i H => ∃ xs, SqL K H a xs ∧ xs.length ≤ i⟩
def Itr (lo : Int) (n : Nat) : It := ⟨fun i _ => i < n, fun i H x H' => H' = H ∧ x = .int (lo + i), fun i _ => n ≤ i⟩
theorem turn_list {P : Program} {w : World} {K : PySem.W.Frag} {tg : Expr} (a it : Addr) : Turn P w K tg (Itl K a) [it] it (fun i h => h.IsListIter it a i) where
  mem := by simp
  obj := fun i h st b hb => by
    have e : b = it := by simpa using hb
    subst e
    obtain ⟨o, e, c, d⟩ := st
    exact ⟨o, e, fun v z => by rw [d] at z; cases z⟩
  keep := fun i h h' st k => st.at fun o e => k it (by simp) o e
  item := by
    intro X hP hw hK hc i pins s σ H E I hf st hg
    subst hP hw hK
    obtain ⟨xs, x, hq, hx⟩ := hg
    obtain ⟨its, rv, p, hz⟩ := I.list hq
    obtain ⟨u, hu, ru⟩ := rv.get hx
    obtain ⟨f0, f1, f2, f3, f4, f5⟩ := hf it (by simp)
    refine wpAny_pyNext_list_item st p.isList (x := u) (by simpa using hu) fun h' st' sb => ?_
    have I1 : Inv X pins σ H { s with heap := h' } := I.turned (t' := s.toks) (fun b o hb e => (sb.2 b hb).trans e) f0 f1 f3 f4 f5
    obtain ⟨o, e, c, d⟩ := id st'
    exact ⟨u, rfl, go_of (s := { s with heap := h' }) e c d (by decide) ⟨x, H, I1, ru, ⟨rfl, fun ys hy => by rw [I.list_inj hy hq]; exact hx⟩, st', fun b hb => (hf b hb).1⟩⟩
  done := by
    intro X hP hw hK hc i pins s σ H E I hf st hg
    subst hP hw hK
    obtain ⟨xs, hq, hx⟩ := hg
    obtain ⟨its, rv, p, hz⟩ := I.list hq
    obtain ⟨f0, f1, f2, f3, f4, f5⟩ := hf it (by simp)
    have hl := rv.length
    exact wpAny_pyNext_list_end (I.ok.hd hc) st p.isList (by simp; omega) fun h' eb => ⟨rfl, I.turned (t' := s.toks) (fun b o hb e => eb b o hb e) f0 f1 f3 f4 f5⟩
  self := fun _ _ _ _ _ st h => wpAny_pyIter_listiter st h
theorem turn_range {P : Program} {w : World} {K : PySem.W.Frag} {tg : Expr} (it : Addr) (lo : Int) (n : Nat) : Turn P w K tg (Itr lo n) [it] it (fun i h => IsRangeIter h it (lo + (i : Nat) * 1) ((n : Int) - (i : Nat)) 1) where
  mem := by simp
  obj := fun i h st b hb => by
    have e : b = it := by simpa using hb
    subst e
    exact ⟨_, st, fun v z => by
      have z' : Data.fields _ = Data.cell v := z
      cases z'⟩
  keep := fun i h h' st k => k it (by simp) _ st
  item := by
    intro X hP hw hK hc i pins s σ H E I hf st hg
    subst hP hw hK
    obtain ⟨f0, f1, f2, f3, f4, f5⟩ := hf it (by simp)
    have W := Walks.range (prog := X.prog) (w := X.w) (I.ok.hd hc) it lo 1 n
    refine W.item i s _ _ hg st fun v h' tk hv st' kk => ?_
    obtain ⟨t, rfl⟩ := hv
    have I1 : Inv X pins σ H { s with heap := h', toks := tk } := I.turned (fun b o hb e => kk b o (by simpa using hb) e) f0 f1 f3 f4 f5
    refine ⟨_, rfl, go_of (s := { s with heap := h', toks := tk }) (n := "range_iterator") st' rfl rfl (by decide) ⟨.int (lo + i), H, I1, ⟨t, ?_⟩, ⟨rfl, rfl⟩, st', fun b hb => (hf b hb).1⟩⟩
    rw [Int.mul_one]
  done := by
    intro X hP hw hK hc i pins s σ H E I hf st hg
    subst hP hw hK
    obtain ⟨f0, f1, f2, f3, f4, f5⟩ := hf it (by simp)
    exact wpAny_pyNext_range_end (I.ok.hd hc) st (by have : n ≤ i := hg; omega) fun h' eb => ⟨rfl, I.turned (t' := s.toks) (fun b o hb e => eb b o hb e) f0 f1 f3 f4 f5⟩
  self := fun _ _ _ _ _ st h => wpAny_pyIter_rangeiter st h
end L2
namespace L2
open PySem PySem.Spec PyProof.Rows
section
variable {X : Cx} {tg : Expr}
def iList (K : PySem.W.Frag) (tl : TE) : TI := fun σ H R => tl σ H fun x H1 => ∃ a, x = .ref a ∧ (∃ xs, SqL K H1 a xs) ∧ R (Itl K a) H1
theorem pi_list {l : Expr} {tl : TE} (hl : PE X l tl) : PI X tg l (iList X.K tl) := by
  intro pins s σ H R I h
  refine thn (hl pins s σ H _ I h) fun v s1 ⟨x, H1, I1, r1, q1⟩ => ?_
  obtain ⟨a, e, ⟨xs, hq⟩, q⟩ := q1
  subst e
  cases r1
  obtain ⟨its, rv, p, hz⟩ := I1.list hq
  refine wpAny_pyIter_list p.isList ?_
  refine ⟨s1.heap.objs.size, [s1.heap.objs.size], _, _, H1, rfl, I1.kept (t' := s1.toks) fun b o e => Heap.get?_push_of_some _ e, turn_list a _, ⟨_, Heap.get?_push_size _ rfl, rfl, rfl⟩, fun b hb => ?_, q⟩
  have e : b = s1.heap.objs.size := by simpa using hb
  subst e
  exact I1.fpOk (Nat.le_refl _) (I1.hok.fresh (Nat.le_refl _))
theorem range_it {pins : List (Addr × Obj)} {σ : St} {H : Hp} {s : Shared} {R : It → Hp → Prop} {E : Value → Shared → Prop} {lo hi : Int} {t u v : Tok} {tk : Nat} (I : Inv X pins σ H s) (h1 : -(2 ^ 62) ≤ lo) (h2 : lo < 2 ^ 62) (h3 : -(2 ^ 62) ≤ hi) (h4 : hi < 2 ^ 62)
    (q : R (Itr lo (hi - lo).toNat) H) : wpAny (model X.prog X.w) X.A (pyIter (.ref s.heap.objs.size)) (PIE X pins σ tg R) E { s with heap := s.heap.push { cls := .type "range", data := .fields #[.int lo t, .int hi u, .int 1 v] }, toks := tk } := by
  refine wpAny_pyIter_range (IsRange.new ..) (small_one h1 h2 h3 h4) ?_
  have I1 : Inv X pins σ H { s with heap := s.heap.push { cls := .type "range", data := .fields #[.int lo t, .int hi u, .int 1 v] }, toks := tk } := I.kept fun b o e => Heap.get?_push_of_some _ e
  refine ⟨(s.heap.push { cls := .type "range", data := .fields #[.int lo t, .int hi u, .int 1 v] }).objs.size, [(s.heap.push { cls := .type "range", data := .fields #[.int lo t, .int hi u, .int 1 v] }).objs.size], _, _, H, rfl,
    I1.kept (t' := tk) fun b o e => Heap.get?_push_of_some _ e, turn_range _ lo (hi - lo).toNat, ?_, fun b hb => ?_, q⟩
  · have e1 : lo + ((0 : Nat) : Int) * 1 = lo := by simp
    have e2 : (((hi - lo).toNat : Nat) : Int) - ((0 : Nat) : Int) = Builtin.Range.rangeSize lo hi 1 := by rw [rangeSize_one]; split <;> omega
    show IsRangeIter _ _ (lo + ((0 : Nat) : Int) * 1) ((((hi - lo).toNat : Nat) : Int) - ((0 : Nat) : Int)) 1
    rw [e1, e2]
    exact Heap.get?_push_size _ rfl
  · have e : b = (s.heap.push { cls := .type "range", data := .fields #[.int lo t, .int hi u, .int 1 v] }).objs.size := by simpa using hb
    subst e
    exact I1.fpOk (Nat.le_refl _) (I1.hok.fresh (Nat.le_refl _))
def iRng1 (ta : TA) : TI := fun σ H R => ta σ H fun vs H1 => ∃ j : Int, vs = [.int j] ∧ -(2 ^ 62) ≤ j ∧ j < 2 ^ 62 ∧ R (Itr 0 j.toNat) H1
theorem pi_range1 {a : Expr} {ta : TA} {p pos : Pos} (hg : Gl X "range") (hm : X.mg "range" = none) (ha : PA X [a] ta) (hs : starEach [a] X.env = [(false, eval a X.env)] := by rfl) : PI X tg (.Call (.Name "range" p) [a] [] pos) (iRng1 ta) := by
  intro pins s σ H R I h
  refine Call_ (ld_blt I hg hm boot_range (PyProof.Rows.callWith_type1 (thn (ha pos pins s σ H _ I h) fun us s1 ⟨vs, H1, I1, r1, q1⟩ => ?_) hs rfl))
  obtain ⟨j, e, q1, q2, q⟩ := q1
  subst e
  cases r1 with
  | cons r rr =>
    cases rr
    obtain ⟨t, rfl⟩ := r
    exact call_range_1 (range_it I1 (by omega) (by omega) q1 q2 (by simpa using q))
def tFor (wi : TI) (g : TG) (tb : TS) : TS := fun D σ H => wi σ H fun J H1 => ∃ W : Nat → Nat → St → Hp → Prop, (∃ m, W 0 m σ H1) ∧ ∀ i m σ H, W i m σ H →
  (J.stop i H ∧ D.nx σ H) ∨ (J.go i H ∧ ∃ N : St → Hp → Prop, (∀ σ' H', N σ' H' → ∃ m', m' < m ∧ W (i + 1) m' σ' H') ∧ ∀ x H', J.yld i H x H' → g x σ H' fun σ2 H2 => tb { D with nx := N, ct := N, bk := D.nx } σ2 H2)
def pinsAt (fp : List Addr) (h : Heap) : List (Addr × Obj) := fp.filterMap fun b => (h.get? b).map fun o => (b, o)
theorem mem_pinsAt {fp : List Addr} {h : Heap} {b : Addr} {o : Obj} (hb : b ∈ fp) (e : h.get? b = some o) : (b, o) ∈ pinsAt fp h := List.mem_filterMap.mpr ⟨b, hb, by rw [e]; rfl⟩
theorem of_pinsAt {fp : List Addr} {h : Heap} {p : Addr × Obj} (hp : p ∈ pinsAt fp h) : p.1 ∈ fp ∧ h.get? p.1 = some p.2 := by
  obtain ⟨b, hb, e⟩ := List.mem_filterMap.mp hp
  cases q : h.get? b with
  | none => rw [q] at e; cases e
  | some o =>
    rw [q] at e
    have e' : (b, o) = p := Option.some.inj e
    subst e'
    exact ⟨hb, q⟩
theorem Inv.pinned {pins : List (Addr × Obj)} {σ : St} {H : Hp} {s : Shared} {fp : List Addr} (I : Inv X pins σ H s) (hf : ∀ b ∈ fp, FpOk X pins H b) (ho : ∀ b ∈ fp, ∃ o, s.heap.get? b = some o ∧ ∀ v, o.data ≠ .cell v) : Inv X (pins ++ pinsAt fp s.heap) σ H s :=
  I.pins_of fun p hp => (List.mem_append.mp hp).elim (fun z => I.pin p (List.mem_append_right _ z)) fun z => by
    obtain ⟨hb, e⟩ := of_pinsAt z
    obtain ⟨f0, f1, f2, _⟩ := hf p.1 hb
    obtain ⟨o, e', d⟩ := ho p.1 hb
    rw [e] at e'; cases e'
    exact ⟨e, f0, f1, f2, d⟩
theorem Inv.unpinned {pins pl : List (Addr × Obj)} {σ : St} {H : Hp} {s : Shared} (I : Inv X (pins ++ pl) σ H s) : Inv X pins σ H s := I.pins_of fun p hp => I.pin p (List.mem_append_right _ (List.mem_append_left _ hp))
theorem ps_for {iter : Expr} {body : List Stmt} {wi : TI} {g : TG} {tb : TS} {pos : Pos} (hp : PassesOwn (model X.prog X.w) X.A X.env X.xe) (hc : X.calm = true) (hi : PI X tg iter wi) (hg : PG X tg g) (hb : PSs X body tb)
    (hs : ∀ x, foldedSetIterable iter X.env x = pure x := by intro _; rfl) : PS X (.For tg iter body [] pos) (tFor wi g tb) := by
  intro pins s σ H D I h
  refine wpAny_For (thn (hi pins s σ H _ I h) fun v s1 h1 => thn h1 fun itv s2 h2 => ?_) hs
  obtain ⟨it, fp, tn, J, H2, e, I2, T, st2, f2, W, ⟨m0, w0⟩, turn⟩ := h2
  subst e
  -- what stays true of the iterator's objects through the loop
  have stat : ∀ {H' : Hp}, (∀ b ∈ fp, H' b = none) → ∀ b ∈ fp, FpOk X pins H' b := fun hn b hb => ⟨hn b hb, (f2 b hb).2⟩
  refine codeAny_forLoop_any (fun n s' => ∃ i σ' H', Inv X pins σ' H' s' ∧ tn i s'.heap ∧ (∀ b ∈ fp, H' b = none) ∧ W i n σ' H') ?_ m0 ⟨0, σ, H2, I2, st2, fun b hb => (f2 b hb).1, w0⟩
  rintro n s3 ⟨i, σ3, H3, I3, st3, fr3, w3⟩
  rcases turn i n σ3 H3 w3 with ⟨stop, qn⟩ | ⟨go, N, hN, step⟩
  · refine wpAny_passesOwn hp (thn (T.done X rfl rfl rfl hc i pins s3 σ3 H3 X.xe I3 (stat fr3) st3 stop) fun r s4 ⟨hr, I4⟩ => ?_)
    subst hr
    exact wpAny_execs_nil ⟨σ3, H3, I4, qn⟩
  · refine wpAny_passesOwn hp (thn (T.item X rfl rfl rfl hc i pins s3 σ3 H3 X.xe I3 (stat fr3) st3 go) fun r s4 ⟨u, hr, h4⟩ => ?_)
    subst hr
    refine wpAny_passesOwn hp (thn h4 fun _ s5 ⟨x, H5, I5, r5, y5, st5, fr5⟩ => ?_)
    have I5' := I5.pinned (stat fr5) (T.obj _ _ st5)
    refine wpAny_passesOwn hp (thn (hg _ s5 σ3 H5 x u _ I5' r5 (step x H5 y5)) fun _ s6 ⟨σ6, H6, I6, q6⟩ => ?_)
    refine wpAny_passesOwn hp (thn (hb _ s6 σ6 H6 _ I6 q6) fun f s7 q7 => ?_)
    have again : ∀ {σ7 : St} {H7 : Hp}, Inv X (pins ++ pinsAt fp s5.heap) σ7 H7 s7 → N σ7 H7 → ∃ m, m < n ∧ ∃ i σ' H', Inv X pins σ' H' s7 ∧ tn i s7.heap ∧ (∀ b ∈ fp, H' b = none) ∧ W i m σ' H' := fun {σ7 H7} I7 n7 => by
      obtain ⟨m', hm, w7⟩ := hN σ7 H7 n7
      refine ⟨m', hm, i + 1, σ7, H7, I7.unpinned, T.keep _ _ _ st5 fun b hb o e => (I7.pin (b, o) (List.mem_append_right _ (List.mem_append_right _ (mem_pinsAt hb e)))).1, fun b hb => ?_, w7⟩
      obtain ⟨o, e, d⟩ := T.obj _ _ st5 b hb
      exact (I7.pin (b, o) (List.mem_append_right _ (List.mem_append_right _ (mem_pinsAt hb e)))).2.1
    cases f with
    | next => obtain ⟨σ7, H7, I7, n7⟩ := q7; exact again I7 n7
    | cont => obtain ⟨σ7, H7, I7, n7⟩ := q7; exact again I7 n7
    | brk => obtain ⟨σ7, H7, I7, q7⟩ := q7; exact ⟨σ7, H7, I7.unpinned, q7⟩
    | ret v => obtain ⟨x7, σ7, H7, I7, r7, q7⟩ := q7; exact ⟨x7, σ7, H7, I7.unpinned, r7, q7⟩
end
theorem for_list {K : PySem.W.Frag} {a : Addr} {xs : List V} {g : TG} {tb : TS} {D : Ends} {σ : St} {H : Hp} (Pv : Nat → St → Hp → Prop) (h0 : Pv 0 σ H) (hl : ∀ i σ H, i ≤ xs.length → Pv i σ H → SqL K H a xs)
    (hs : ∀ i x σ H, xs[i]? = some x → Pv i σ H → g x σ H fun σ2 H2 => tb { D with nx := Pv (i + 1), ct := Pv (i + 1), bk := D.nx } σ2 H2) (hd : ∀ σ H, Pv xs.length σ H → D.nx σ H) :
    ∃ W : Nat → Nat → St → Hp → Prop, (∃ m, W 0 m σ H) ∧ ∀ i m σ H, W i m σ H →
      ((Itl K a).stop i H ∧ D.nx σ H) ∨ ((Itl K a).go i H ∧ ∃ N : St → Hp → Prop, (∀ σ' H', N σ' H' → ∃ m', m' < m ∧ W (i + 1) m' σ' H') ∧ ∀ x H', (Itl K a).yld i H x H' → g x σ H' fun σ2 H2 => tb { D with nx := N, ct := N, bk := D.nx } σ2 H2) := by
  refine ⟨fun i m σ H => m = xs.length - i ∧ i ≤ xs.length ∧ Pv i σ H, ⟨xs.length, by simp, Nat.zero_le _, h0⟩, ?_⟩
  rintro i m σ H ⟨rfl, hi, p⟩
  have q := hl i σ H hi p
  by_cases hlt : i < xs.length
  · refine .inr ⟨⟨xs, xs[i], q, by simp [hlt]⟩, Pv (i + 1), fun σ' H' p' => ⟨xs.length - (i + 1), by omega, rfl, hlt, p'⟩, fun x H' y => ?_⟩
    obtain ⟨e, y⟩ := y
    subst e
    exact hs i x σ _ (y xs q) p
  · have e : i = xs.length := by omega
    subst e
    exact .inl ⟨⟨xs, q, Nat.le_refl _⟩, hd σ H p⟩
theorem for_range {lo : Int} {n : Nat} {g : TG} {tb : TS} {D : Ends} {σ : St} {H : Hp} (Pv : Nat → St → Hp → Prop) (h0 : Pv 0 σ H)
    (hs : ∀ i σ H, i < n → Pv i σ H → g (.int (lo + i)) σ H fun σ2 H2 => tb { D with nx := Pv (i + 1), ct := Pv (i + 1), bk := D.nx } σ2 H2) (hd : ∀ σ H, Pv n σ H → D.nx σ H) :
    ∃ W : Nat → Nat → St → Hp → Prop, (∃ m, W 0 m σ H) ∧ ∀ i m σ H, W i m σ H →
      ((Itr lo n).stop i H ∧ D.nx σ H) ∨ ((Itr lo n).go i H ∧ ∃ N : St → Hp → Prop, (∀ σ' H', N σ' H' → ∃ m', m' < m ∧ W (i + 1) m' σ' H') ∧ ∀ x H', (Itr lo n).yld i H x H' → g x σ H' fun σ2 H2 => tb { D with nx := N, ct := N, bk := D.nx } σ2 H2) := by
  refine ⟨fun i m σ H => m = n - i ∧ i ≤ n ∧ Pv i σ H, ⟨n, by simp, Nat.zero_le _, h0⟩, ?_⟩
  rintro i m σ H ⟨rfl, hi, p⟩
  by_cases hlt : i < n
  · refine .inr ⟨hlt, Pv (i + 1), fun σ' H' p' => ⟨n - (i + 1), by omega, rfl, hlt, p'⟩, fun x H' y => ?_⟩
    obtain ⟨e, y⟩ := y
    subst e y
    exact hs i σ _ hlt p
  · have e : i = n := by omega
    subst e
    exact .inl ⟨Nat.le_refl _, hd σ H p⟩
end L2
namespace L2
open PySem PySem.Spec PyProof.Rows
abbrev R2 := V → V → Hp → VK → Prop
def OpR (X : Cx) (f : Value → Value → Sem Value) (r : R2) : Prop :=
  ∀ (pins : List (Addr × Obj)) (s : Shared) (σ : St) (H : Hp) (x y : V) (v u : Value) (Q : VK), Inv X pins σ H s → RelV x v → RelV y u → r x y H Q →
    wpAny (model X.prog X.w) X.A (f v u) (EP X pins σ Q) X.xe s
def UnR (X : Cx) (f : Value → Sem Value) (r : V → Hp → VK → Prop) : Prop :=
  ∀ (pins : List (Addr × Obj)) (s : Shared) (σ : St) (H : Hp) (x : V) (v : Value) (Q : VK), Inv X pins σ H s → RelV x v → r x H Q →
    wpAny (model X.prog X.w) X.A (f v) (EP X pins σ Q) X.xe s
def CallR (X : Cx) (f : Value) (r : List V → Hp → VK → Prop) : Prop :=
  ∀ (pins : List (Addr × Obj)) (s : Shared) (σ : St) (H : Hp) (xs : List V) (us : List Value) (Q : VK), Inv X pins σ H s → Vals xs us → r xs H Q →
    wpAny (model X.prog X.w) X.A (call f us) (EP X pins σ Q) X.xe s
def tOp (r : R2) (ta tb : TE) : TE := fun σ H Q => ta σ H fun x H1 => tb σ H1 fun y H2 => r x y H2 Q
def tUn (r : V → Hp → VK → Prop) (ta : TE) : TE := fun σ H Q => ta σ H fun x H1 => r x H1 Q
def rI (C : Int → Int → Prop) (g : Int → Int → V) : R2 := fun x y H Q => ∃ i j, x = .int i ∧ y = .int j ∧ C i j ∧ Q (g i j) H
def rI0 (g : Int → Int → V) : R2 := fun x y H Q => ∃ i j, x = .int i ∧ y = .int j ∧ Q (g i j) H
def rU (g : Int → V) : V → Hp → VK → Prop := fun x H Q => ∃ i, x = .int i ∧ Q (g i) H
section
variable {X : Cx} {a b c : Expr} {ta tb tc : TE} {pos : Pos}
theorem binT (ha : PE X a ta) (hb : PE X b tb) {pins : List (Addr × Obj)} {s : Shared} {σ : St} {H : Hp} {R : V → V → Hp → Prop} (I : Inv X pins σ H s)
    (h : ta σ H fun x H1 => tb σ H1 fun y H2 => R x y H2) {Q : Value → Shared → Prop} {f : Value → Value → Sem Value}
    (hf : ∀ v u s2 x y H2, Inv X pins σ H2 s2 → RelV x v → RelV y u → R x y H2 → wpAny (model X.prog X.w) X.A (f v u) Q X.xe s2) :
    wpAny (model X.prog X.w) X.A (eval a X.env) (fun v s₁ => wpAny (model X.prog X.w) X.A (eval b X.env) (fun u s₂ => wpAny (model X.prog X.w) X.A (f v u) Q X.xe s₂) X.xe s₁) X.xe s := by
  refine thn (ha pins s σ H _ I h) fun v s1 ⟨x, H1, I1, r1, q1⟩ => ?_
  refine thn (hb pins s1 σ H1 _ I1 q1) fun u s2 ⟨y, H2, I2, r2, q2⟩ => ?_
  exact hf v u s2 x y H2 I2 r1 r2 q2
theorem pe_op {op : Operator} {r : R2} (ho : OpR X (binaryOp op) r) (ha : PE X a ta) (hb : PE X b tb) : PE X (.BinOp a op b pos) (tOp r ta tb) := by
  intro pins s σ H Q I h
  exact wpAny_BinOp (binT ha hb I h fun v u s2 x y H2 I2 rx ry q => ho pins s2 σ H2 x y v u Q I2 rx ry q)
theorem pe_un {op : UnaryOp} {r : V → Hp → VK → Prop} (ho : UnR X (unaryOp op) r) (ha : PE X a ta) : PE X (.UnaryOp op a pos) (tUn r ta) := by
  intro pins s σ H Q I h
  exact UnaryOp_ (thn (ha pins s σ H _ I h) fun v s1 ⟨x, H1, I1, r1, q1⟩ => ho pins s1 σ H1 x v Q I1 r1 q1)
theorem opI {f : Value → Value → Sem Value} {C : Int → Int → Prop} {g : Int → Int → Int}
    (rule : ∀ (i j : Int) (t u : Tok) (s : Shared) (Q : Value → Shared → Prop) (E : Value → Shared → Prop), C i j → Q (.int (g i j) s.toks) { s with toks := s.toks + 1 } → wpAny (model X.prog X.w) X.A (f (.int i t) (.int j u)) Q E s) :
    OpR X f (rI C fun i j => .int (g i j)) := by
  intro pins s σ H x y v u Q I rx ry h
  obtain ⟨i, j, rfl, rfl, hc, q⟩ := h
  obtain ⟨t, rfl⟩ := rx
  obtain ⟨t', rfl⟩ := ry
  exact rule i j t t' s _ _ hc ⟨.int (g i j), H, I.tok _, ⟨_, rfl⟩, q⟩
theorem opI0 {f : Value → Value → Sem Value} {g : Int → Int → Int}
    (rule : ∀ (i j : Int) (t u : Tok) (s : Shared) (Q : Value → Shared → Prop) (E : Value → Shared → Prop), Q (.int (g i j) s.toks) { s with toks := s.toks + 1 } → wpAny (model X.prog X.w) X.A (f (.int i t) (.int j u)) Q E s) :
    OpR X f (rI0 fun i j => .int (g i j)) := by
  intro pins s σ H x y v u Q I rx ry h
  obtain ⟨i, j, rfl, rfl, q⟩ := h
  obtain ⟨t, rfl⟩ := rx
  obtain ⟨t', rfl⟩ := ry
  exact rule i j t t' s _ _ ⟨.int (g i j), H, I.tok _, ⟨_, rfl⟩, q⟩
theorem opB0 {f : Value → Value → Sem Value} {g : Int → Int → Bool}
    (rule : ∀ (i j : Int) (t u : Tok) (s : Shared) (Q : Value → Shared → Prop) (E : Value → Shared → Prop), Q (.bool (g i j)) s → wpAny (model X.prog X.w) X.A (f (.int i t) (.int j u)) Q E s) :
    OpR X f (rI0 fun i j => .bl (g i j)) := by
  intro pins s σ H x y v u Q I rx ry h
  obtain ⟨i, j, rfl, rfl, q⟩ := h
  obtain ⟨t, rfl⟩ := rx
  obtain ⟨t', rfl⟩ := ry
  exact rule i j t t' s _ _ ⟨.bl (g i j), H, I, rfl, q⟩
def CMul (i j : Int) : Prop := (-(2 ^ 64) < i ∧ i < 2 ^ 64) ∨ (-(2 ^ 64) < j ∧ j < 2 ^ 64)
theorem CMul.ok {i j : Int} (h : CMul i j) : IntMulOk i j := by
  rcases h with ⟨h1, h2⟩ | ⟨h1, h2⟩
  · exact .of_left (intBits_le_64 h1 h2)
  · exact .of_right (intBits_le_64 h1 h2)
theorem op_add : OpR X (binaryOp .Add) (rI0 fun i j => .int (i + j)) := opI0 fun _ _ _ _ _ _ _ q => add_int q
theorem op_sub : OpR X (binaryOp .Sub) (rI0 fun i j => .int (i - j)) := opI0 fun _ _ _ _ _ _ _ q => sub_int q
theorem op_mul : OpR X (binaryOp .Mult) (rI CMul fun i j => .int (i * j)) := opI fun _ _ _ _ _ _ _ hc q => mul_int q hc.ok
theorem op_mod : OpR X (binaryOp .Mod) (rI (fun _ j => 0 < j) fun i j => .int (i % j)) := opI fun i j _ _ _ _ _ hc q => by
  have h1 : (0 : Int) < j := hc
  exact mod_int' (by omega) (by rw [Int.fmod_eq_emod_of_nonneg i (by omega)]; exact q)
theorem unI {f : Value → Sem Value} {g : Int → Int}
    (rule : ∀ (i : Int) (t : Tok) (s : Shared) (Q : Value → Shared → Prop) (E : Value → Shared → Prop), Q (.int (g i) s.toks) { s with toks := s.toks + 1 } → wpAny (model X.prog X.w) X.A (f (.int i t)) Q E s) :
    UnR X f (rU fun i => .int (g i)) := by
  intro pins s σ H x v Q I rx h
  obtain ⟨i, rfl, q⟩ := h
  obtain ⟨t, rfl⟩ := rx
  exact rule i t s _ _ ⟨.int (g i), H, I.tok _, ⟨_, rfl⟩, q⟩
theorem un_neg : UnR X (unaryOp .USub) (rU fun i => .int (-i)) := unI fun _ _ _ _ _ q => neg_int q
end
def scal : V → V → Bool
  | .non, .non => true | .non, .int _ => true | .int _, .non => true | .non, .bl _ => true | .bl _, .non => true | .non, .str _ => true | .str _, .non => true
  | .int _, .int _ => true | .bl _, .bl _ => true | .str _, .str _ => true | .byt _, .byt _ => true
  | .int _, .str _ => true | .str _, .int _ => true | .bl _, .str _ => true | .str _, .bl _ => true
  | _, _ => false
def rEq : R2 := fun x y H Q => scal x y = true ∧ Q (.bl (decide (x = y))) H
def rNe : R2 := fun x y H Q => scal x y = true ∧ Q (.bl (!decide (x = y))) H
theorem dec_int {i j : Int} : decide (V.int i = V.int j) = (i == j) := by
  rw [Bool.eq_iff_iff]
  simp
theorem dec_bl {i j : Bool} : decide (V.bl i = V.bl j) = (i == j) := by
  rw [Bool.eq_iff_iff]
  simp
theorem dec_str {i j : Str} : decide (V.str i = V.str j) = (i == j) := by
  rw [Bool.eq_iff_iff]
  simp
theorem dec_byt {i j : Array UInt8} : decide (V.byt i = V.byt j) = (i.toList == j.toList) := by
  rw [Bool.eq_iff_iff]
  cases i
  cases j
  simp
section
variable {X : Cx} {a b c : Expr} {ta tb tc : TE} {pos : Pos}
theorem fin_bl {pins : List (Addr × Obj)} {σ : St} {H : Hp} {s : Shared} {Q : VK} {k k' : Bool} (I : Inv X pins σ H s) (q : Q (.bl k) H) (e : k = k') : EP X pins σ Q (.bool k') s := by
  subst e
  exact ⟨.bl k, H, I, rfl, q⟩
theorem op_eq : OpR X (compareOp .Eq) rEq := by
  intro pins s σ H x y v u Q I rx ry h
  obtain ⟨hs, q⟩ := h
  cases x with
  | non =>
    cases rx
    cases y with
    | non => cases ry; exact PySem.EqNone.eq_none_none (fin_bl I q (by simp))
    | bl j => cases ry; exact PySem.EqNone.eq_none_bool (fin_bl I q (by simp))
    | int j => obtain ⟨t', rfl⟩ := ry; exact PySem.EqNone.eq_none_int (fin_bl I q (by simp))
    | str j => obtain ⟨t', rfl⟩ := ry; exact PySem.EqNone.eq_none_str (fin_bl I q (by simp))
    | _ => exact absurd (show false = true from hs) Bool.false_ne_true
  | bl i =>
    cases rx
    cases y with
    | non => cases ry; exact PySem.EqNone.eq_bool_none (fin_bl I q (by simp))
    | bl j => cases ry; exact eq_bool (fin_bl I q dec_bl)
    | str j => obtain ⟨t', rfl⟩ := ry; exact PySem.EqMixed.eq_bool_str (fin_bl I q (by simp))
    | _ => exact absurd (show false = true from hs) Bool.false_ne_true
  | int i =>
    obtain ⟨t, rfl⟩ := rx
    cases y with
    | non => cases ry; exact PySem.EqNone.eq_int_none (fin_bl I q (by simp))
    | int j => obtain ⟨t', rfl⟩ := ry; exact eq_int (fin_bl I q dec_int)
    | str j => obtain ⟨t', rfl⟩ := ry; exact PySem.EqMixed.eq_int_str (fin_bl I q (by simp))
    | _ => exact absurd (show false = true from hs) Bool.false_ne_true
  | str i =>
    obtain ⟨t, rfl⟩ := rx
    cases y with
    | non => cases ry; exact PySem.EqNone.eq_str_none (fin_bl I q (by simp))
    | bl j => cases ry; exact PySem.EqMixed.eq_str_bool (fin_bl I q (by simp))
    | int j => obtain ⟨t', rfl⟩ := ry; exact PySem.EqMixed.eq_str_int (fin_bl I q (by simp))
    | str j => obtain ⟨t', rfl⟩ := ry; exact eq_str (fin_bl I q dec_str)
    | _ => exact absurd (show false = true from hs) Bool.false_ne_true
  | byt i =>
    obtain ⟨t, rfl⟩ := rx
    cases y with
    | byt j => obtain ⟨t', rfl⟩ := ry; exact PySem.W.eq_bytes (fin_bl I q dec_byt)
    | _ => exact absurd (show false = true from hs) Bool.false_ne_true
  | _ => cases y <;> exact absurd (show false = true from hs) Bool.false_ne_true
theorem op_ne : OpR X (compareOp .NotEq) rNe := by
  intro pins s σ H x y v u Q I rx ry h
  obtain ⟨hs, q⟩ := h
  cases x with
  | non =>
    cases rx
    cases y with
    | non => cases ry; exact PySem.EqNone.ne_none_none (fin_bl I q (by simp))
    | bl j => cases ry; exact PySem.EqNone.ne_none_bool (fin_bl I q (by simp))
    | int j => obtain ⟨t', rfl⟩ := ry; exact PySem.EqNone.ne_none_int (fin_bl I q (by simp))
    | str j => obtain ⟨t', rfl⟩ := ry; exact PySem.EqNone.ne_none_str (fin_bl I q (by simp))
    | _ => exact absurd (show false = true from hs) Bool.false_ne_true
  | bl i =>
    cases rx
    cases y with
    | non => cases ry; exact PySem.EqNone.ne_bool_none (fin_bl I q (by simp))
    | bl j => cases ry; exact ne_bool (fin_bl I q (congrArg not dec_bl))
    | str j => obtain ⟨t', rfl⟩ := ry; exact PySem.EqMixed.ne_bool_str (fin_bl I q (by simp))
    | _ => exact absurd (show false = true from hs) Bool.false_ne_true
  | int i =>
    obtain ⟨t, rfl⟩ := rx
    cases y with
    | non => cases ry; exact PySem.EqNone.ne_int_none (fin_bl I q (by simp))
    | int j => obtain ⟨t', rfl⟩ := ry; exact ne_int (fin_bl I q (congrArg not dec_int))
    | str j => obtain ⟨t', rfl⟩ := ry; exact PySem.EqMixed.ne_int_str (fin_bl I q (by simp))
    | _ => exact absurd (show false = true from hs) Bool.false_ne_true
  | str i =>
    obtain ⟨t, rfl⟩ := rx
    cases y with
    | non => cases ry; exact PySem.EqNone.ne_str_none (fin_bl I q (by simp))
    | bl j => cases ry; exact PySem.EqMixed.ne_str_bool (fin_bl I q (by simp))
    | int j => obtain ⟨t', rfl⟩ := ry; exact PySem.EqMixed.ne_str_int (fin_bl I q (by simp))
    | str j => obtain ⟨t', rfl⟩ := ry; exact ne_str (fin_bl I q (congrArg not dec_str))
    | _ => exact absurd (show false = true from hs) Bool.false_ne_true
  | byt i =>
    obtain ⟨t, rfl⟩ := rx
    cases y with
    | byt j => obtain ⟨t', rfl⟩ := ry; exact PySem.W.ne_bytes (fin_bl I q (congrArg not dec_byt))
    | _ => exact absurd (show false = true from hs) Bool.false_ne_true
  | _ => cases y <;> exact absurd (show false = true from hs) Bool.false_ne_true
theorem op_lt : OpR X (compareOp .Lt) (rI0 fun i j => .bl (decide (i < j))) := opB0 fun _ _ _ _ _ _ _ q => lt_int q
theorem op_le : OpR X (compareOp .LtE) (rI0 fun i j => .bl (decide (i ≤ j))) := opB0 fun _ _ _ _ _ _ _ q => le_int q
theorem op_gt : OpR X (compareOp .Gt) (rI0 fun i j => .bl (decide (j < i))) := opB0 fun _ _ _ _ _ _ _ q => gt_int q
theorem op_ge : OpR X (compareOp .GtE) (rI0 fun i j => .bl (decide (j ≤ i))) := opB0 fun _ _ _ _ _ _ _ q => ge_int q
theorem nomark (b : Expr) {op : CmpOp} (h : op ≠ .In := by decide) (h2 : op ≠ .NotIn := by decide) : behindInMarks op b = false := by
  have e1 : (op == CmpOp.In) = false := by cases op <;> first | rfl | exact absurd rfl h
  have e2 : (op == CmpOp.NotIn) = false := by cases op <;> first | rfl | exact absurd rfl h2
  cases b <;> simp [behindInMarks, e1, e2]
theorem pe_cmpR {op : CmpOp} {r : R2} (ho : OpR X (compareOp op) r) (ha : PE X a ta) (hb : PE X b tb) (hm : behindInMarks op b = false) : PE X (.Compare a [op] [b] pos) (tOp r ta tb) := by
  intro pins s σ H Q I h
  exact wpAny_Compare1 (binT ha hb I h fun v u s2 x y H2 I2 rx ry q => ho pins s2 σ H2 x y v u Q I2 rx ry q) hm
def tTest (t : TE) : TT := fun σ H Q => t σ H fun x H' => ∃ k, x = .bl k ∧ Q k H'
theorem pt_cmpR {op : CmpOp} {r : R2} (ho : OpR X (compareOp op) r) (ha : PE X a ta) (hb : PE X b tb) (hm : behindInMarks op b = false) : PT X (.Compare a [op] [b] pos) (tTest (tOp r ta tb)) := by
  intro pins s σ H Q I h
  refine wpAny_isTrue_Compare1 (thn (ha pins s σ H _ I h) fun v s1 ⟨x, H1, I1, r1, q1⟩ => thn (hb pins s1 σ H1 _ I1 q1) fun u s2 ⟨y, H2, I2, r2, q2⟩ =>
    thn (ho pins s2 σ H2 x y v u _ I2 r1 r2 q2) fun c s3 ⟨z, H3, I3, r3, k, e, q3⟩ => ?_) hm
  subst e
  cases r3
  exact wpAny_truthy_bool ⟨H3, I3, q3⟩
def tChain (r r' : R2) (ta tb tc : TE) : TE := fun σ H Q => ta σ H fun x H1 => tb σ H1 fun y H2 => r x y H2 fun z H3 => ∃ k, z = .bl k ∧
  (if k = true then tc σ H3 fun w' H4 => r' y w' H4 Q else Q (.bl false) H3)
theorem pt_chain {op op' : CmpOp} {r r' : R2} (ho : OpR X (compareOp op) r) (ho' : OpR X (compareOp op') r') (ha : PE X a ta) (hb : PE X b tb) (hc : PE X c tc)
    (hm : lastMarks [op, op'] [b, c] = false := by with_unfolding_all rfl) : PT X (.Compare a [op, op'] [b, c] pos) (tTest (tChain r r' ta tb tc)) := by
  intro pins s σ H Q I h
  refine isTrue_chain (thn (ha pins s σ H _ I h) fun v s1 ⟨x, H1, I1, r1, q1⟩ => test_link (thn (hb pins s1 σ H1 _ I1 q1) fun u s2 ⟨y, H2, I2, r2, q2⟩ =>
    thn (ho pins s2 σ H2 x y v u _ I2 r1 r2 q2) fun d s3 ⟨z, H3, I3, r3, k, e, q3⟩ => ?_)) hm
  subst e
  cases r3
  refine wpAny_truthy_bool ?_
  cases k with
  | false =>
    obtain ⟨k', e', q'⟩ := q3
    cases e'
    exact ite_ff ⟨H3, I3, q'⟩
  | true =>
    refine ite_tt (test_last (thn (hc pins s3 σ H3 _ I3 q3) fun w' s4 ⟨z', H4, I4, r4, q4⟩ => thn (ho' pins s4 σ H4 y z' u w' _ I4 r2 r4 q4) fun d' s5 ⟨z2, H5, I5, r5, k2, e2, q5⟩ => ?_))
    subst e2
    cases r5
    exact wpAny_truthy_bool ⟨H5, I5, q5⟩
theorem line63 : (sizeLine : Nat) < 2 ^ 63 := by rw [sizeLine_eq]; decide
theorem vals1 {x : V} {us : List Value} (r : Vals [x] us) : ∃ u, us = [u] ∧ RelV x u := by
  cases r with
  | cons r1 r2 => cases r2; exact ⟨_, rfl, r1⟩
end
end L2
namespace L2
open PySem PySem.Spec PyProof.Rows
structure ObjM (h : Heap) (x dx C : Addr) (mA : Str → Option Value) : Prop where
  obj : h.get? x = some (PySem.W.instObj C dx)
  ns : h.Ns1 dx mA
  ne : dx ≠ x
theorem lookIn_ns {h : Heap} {dx : Addr} {mA : Str → Option Value} (n : h.Ns1 dx mA) : ∃ od, h.get? dx = some od ∧ ∀ name, PySem.W.lookIn name od = some (mA name) := by
  obtain ⟨o, es, ep, ho, hd, hk, _, hm⟩ := n
  refine ⟨o, ho, fun name => ?_⟩
  have e := hm name
  unfold nsFind findBy at e
  rw [← Array.find?_toList] at e
  unfold PySem.W.lookIn
  rw [hd]
  dsimp only
  split
  · rename_i y q
    rw [q] at e
    exact congrArg some e
  · rename_i q
    rw [q] at e
    have a : es.toList.any (·.refKey) = false := by
      rw [List.any_eq_false]
      intro y hy
      obtain ⟨z, t, hkey⟩ := hk y (Array.mem_toList_iff.mp hy)
      simp [DictEntry.refKey, hkey]
    have a' : ¬ es.toList.any (·.refKey) = true := by rw [a]; exact Bool.false_ne_true
    rw [if_neg a']
    exact congrArg some e
theorem ObjM.look {h : Heap} {x dx C : Addr} {mA : Str → Option Value} (I : ObjM h x dx C mA) : ∃ od, PySem.W.InstAt h x (PySem.W.instObj C dx) C (some od) ∧ ∀ name, PySem.W.lookIn name od = some (mA name) :=
  let ⟨od, ho, hl⟩ := lookIn_ns I.ns
  ⟨od, ⟨I.obj, rfl, rfl, ho⟩, hl⟩
section
variable {prog : Program} {w : World} {A : Around} {E : Value → Shared → Prop} {s : Shared} {K : PySem.W.Frag} {x dx C f : Addr} {mA : Str → Option Value} {name : Str} {v : Value}
theorem get_map {expr : Bool} {Q : Value → Shared → Prop} (X : K.In s.heap) (I : ObjM s.heap x dx C mA) (hg : PySem.W.plainGet K C name = true) (hh : PySem.W.hasDictIn K C = true)
    (ha : PySem.W.findIn K (.ref C) name = some none) (hv : mA name = some v) (hv' : PySem.W.handedIn v = true) (h : Q v { s with toks := s.toks + 1 }) :
    wpAny (model prog w) A (getAttr (.ref x) name expr) Q E s := by
  obtain ⟨od, J, hl⟩ := I.look
  exact PySem.W.get_value X J (PySem.W.plainGet_of hg).1 (PySem.W.findObj_own hh ha rfl (by rw [hl, hv])) hv' h
theorem get_meth {pl : Sem Bool} {Q : Value × List Value → Shared → Prop} (X : K.In s.heap) (I : ObjM s.heap x dx C mA) (hg : PySem.W.plainGet K C name = true)
    (hf : PySem.W.findIn K (.ref C) name = some (some (.ref f))) (ht : PySem.W.isFn K (.ref f) = true) (hv : mA name = none) (h : Q (.ref f, [.ref x]) s) :
    wpAny (model prog w) A (getMethod (.ref x) name pl) Q E s := by
  obtain ⟨od, J, hl⟩ := I.look
  exact PySem.W.method_fn X J (PySem.W.plainGet_of hg).1 (PySem.W.plainGet_of hg).2 hf (beq_iff_eq.mp ht) (by show (PySem.W.lookIn name od).map (·.isSome) = some false; rw [hl, hv]; rfl) h
theorem set_map {ns : List Str} {Q : Unit → Shared → Prop} (X : K.In s.heap) (I : ObjM s.heap x dx C mA)
    (hs : PySem.W.findIn K (.ref C) "__setattr__" = some (some (.builtin "object.__setattr__"))) (hp : PySem.W.plainOver K C = true) (ht : PySem.W.takerIn K C name = some none) (hh : PySem.W.hasDictIn K C = true)
    (hw : PySem.Within mA ns) (hsz : ns.length ≤ sizeLine)
    (h : ∀ h', ObjM h' x dx C (fun y => if y = name then some v else mA y) → Heap.SameBut dx s.heap h' → Q () { s with heap := h', toks := s.toks + 2 }) :
    wpAny (model prog w) A (setAttr (.ref x) name v) Q E s := by
  obtain ⟨od, J, hl⟩ := I.look
  refine PySem.W.set_plain X J hs (PySem.W.osa_open (s := { s with toks := s.toks + 1 }) (r := none) X J hp ht fun b => ?_)
  obtain ⟨cd, hc, hd'⟩ := PySem.W.any_some hh
  have hx : s.heap.get? x = some ⟨.ref C, some dx, .plain, #[]⟩ := I.obj
  refine wpAny_bind (wpAny_pure (wpAny_bind (wpAny_bind (wpAny_loadPart hx (wpAny_bind (PySem.W.Looks.here (s := { s with toks := s.toks + 1 }) (PySem.W.looks_clsIn X hc) ?_))))))
  rw [hd']
  refine wpAny_pure (a := some dx) (wpAny_bind (wpAny_pure (wpAny_bind ?_)))
  refine wpAny_nsSet1 (s := { s with toks := s.toks + 1 }) I.ns fun h' hn2 hs2 => ?_
  obtain ⟨oD, esD, epD, hoD, hdD, hcD⟩ := hn2.count (PySem.Within.cons name v hw)
  refine wpAny_bind (wpAny_lookBehind hoD (by rw [hdD]; exact pastItsLine_dict (Nat.le_trans hcD (by rw [List.length_cons]; omega))) ?_)
  exact wpAny_pure (h _ ⟨(hs2.2 _ (Ne.symm I.ne)).trans I.obj, hn2, I.ne⟩ hs2)
theorem make_map {R : Result → Shared → Prop} {vs : List Value} {kw : List (Str × Value)} (X : K.In s.heap) (hm : PySem.W.makesIn K C = true)
    (hi : PySem.W.findIn K (.ref C) "__init__" = some (some (.ref f))) (hf : PySem.W.typeIn K (.ref f) = some (.type "function"))
    (h : codeAny (model prog w) (A.under (.builtin "type.__call__" ⟨.ref C :: vs, kw⟩)) (.call (.ref f) ⟨.ref (s.heap.objs.size + 1) :: vs, kw⟩) (PySem.W.InitBack (s.heap.objs.size + 1) R)
      { s with heap := (s.heap.push PySem.W.emptyDict).push (PySem.W.instObj C s.heap.objs.size) }) :
    codeAny (model prog w) A (.call (.ref C) ⟨vs, kw⟩) R s := by
  obtain ⟨hh, g, d, t, os⟩ := s
  exact PySem.W.make_core (PySem.W.makes_of X hm) (PySem.W.looks_findIn X hi) (fun self => PySem.W.bind_fn X self hf) (.inl rfl) h
end
def putF (f : Str) (v : V) : List (Str × V) → List (Str × V)
  | [] => [(f, v)]
  | (g, x) :: r => if g = f then (g, v) :: r else (g, x) :: putF f v r
theorem lookup_putF (f g : Str) (v : V) : ∀ fs : List (Str × V), (putF f v fs).lookup g = if g = f then some v else fs.lookup g
  | [] => by
    show List.lookup g [(f, v)] = _
    by_cases h : g = f
    · have hb : (g == f) = true := beq_iff_eq.mpr h
      simp only [List.lookup, hb, if_pos h]
    · have hb : (g == f) = false := beq_eq_false_iff_ne.mpr h
      simp only [List.lookup, hb, if_neg h]
  | (k, x) :: r => by
    have ih := lookup_putF f g v r
    rw [show putF f v ((k, x) :: r) = (if k = f then (k, v) :: r else (k, x) :: putF f v r) from rfl]
    by_cases hk : k = f
    · rw [if_pos hk]
      by_cases h : g = k
      · have hb : (g == k) = true := beq_iff_eq.mpr h
        simp only [List.lookup, hb, if_pos (h.trans hk)]
      · have hb : (g == k) = false := beq_eq_false_iff_ne.mpr h
        simp only [List.lookup, hb, if_neg (fun e : g = f => h (e.trans hk.symm))]
    · rw [if_neg hk]
      by_cases h : g = k
      · have hb : (g == k) = true := beq_iff_eq.mpr h
        simp only [List.lookup, hb, if_neg (fun e : g = f => hk (h.symm.trans e))]
      · have hb : (g == k) = false := beq_eq_false_iff_ne.mpr h
        simp only [List.lookup, hb]
        exact ih
theorem keys_putF (f : Str) (v : V) : ∀ fs : List (Str × V), f ∈ (putF f v fs).map (·.1) ∧ ∀ g, g ∈ fs.map (·.1) → g ∈ (putF f v fs).map (·.1)
  | [] => ⟨by simp [putF], fun g h => by simp at h⟩
  | (k, x) :: r => by
    obtain ⟨i1, i2⟩ := keys_putF f v r
    rw [show putF f v ((k, x) :: r) = (if k = f then (k, v) :: r else (k, x) :: putF f v r) from rfl]
    by_cases hk : k = f
    · rw [if_pos hk]
      subst hk
      exact ⟨by simp, fun g h => by simpa using h⟩
    · rw [if_neg hk]
      refine ⟨?_, fun g h => ?_⟩
      · rw [List.map_cons]
        exact List.mem_cons_of_mem _ i1
      · rw [List.map_cons] at h ⊢
        rcases List.mem_cons.mp h with e | e
        · exact List.mem_cons.mpr (.inl e)
        · exact List.mem_cons_of_mem _ (i2 g e)
theorem length_putF (f : Str) (v : V) : ∀ fs : List (Str × V), (putF f v fs).length ≤ fs.length + 1
  | [] => by simp [putF]
  | (k, x) :: r => by
    have ih := length_putF f v r
    rw [show putF f v ((k, x) :: r) = (if k = f then (k, v) :: r else (k, x) :: putF f v r) from rfl]
    by_cases hk : k = f
    · rw [if_pos hk, List.length_cons, List.length_cons]; omega
    · rw [if_neg hk, List.length_cons, List.length_cons]; omega
theorem RelO.some_of {v : V} {o : Option Value} (r : RelO (some v) o) : ∃ u, o = some u ∧ RelV v u := by
  cases o with
  | none => exact (show False from r).elim
  | some u => exact ⟨u, rfl, r⟩
theorem RelO.none_of {o : Option Value} (r : RelO none o) : o = none := by
  cases o with
  | none => rfl
  | some u => exact (show False from r).elim
theorem handed_of {v : V} {u : Value} (r : RelV v u) : PySem.W.handedIn u = true := by
  cases v with
  | non => cases (show u = Value.none from r); rfl
  | bl b => cases (show u = Value.bool b from r); rfl
  | int i => obtain ⟨t, e⟩ := (show ∃ t, u = Value.int i t from r); cases e; rfl
  | str x => obtain ⟨t, e⟩ := (show ∃ t, u = Value.str x t from r); cases e; rfl
  | byt b => obtain ⟨t, e⟩ := (show ∃ t, u = Value.bytes b t from r); cases e; rfl
  | flt b => obtain ⟨t, e⟩ := (show ∃ t, u = Value.float b t from r); cases e; rfl
  | ref a => cases (show u = Value.ref a from r); rfl
  | ty n => cases (show u = Value.type n from r); rfl
section
variable {P : Program} {w : World} {H H' : Hp} {h h' : Heap} {a C dx : Addr} {fs fs' : List (Str × V)}
theorem ins_get (hok : HOk P w H h) (e : H a = some (.ins C dx fs)) : ∃ mA, ObjM h a dx C mA ∧ (∀ f, RelO (fs.lookup f) (mA f)) ∧ PySem.Within mA (fs.map (·.1)) ∧ fs.length ≤ 1000 ∧ H dx = some (.own a) := by
  obtain ⟨d, z, ne, ob, mA, n, r, q⟩ := (show ObjOk P w H h a (.ins C dx fs) from hok a _ e)
  exact ⟨mA, ⟨ob, n, ne⟩, r, q, z, d⟩
end
structure Cls (K : PySem.W.Frag) (C : Addr) : Prop where
  pg : PySem.W.plainGet K C Str.empty = true
  hd : PySem.W.hasDictIn K C = true
  po : PySem.W.plainOver K C = true
  sa : PySem.W.findIn K (.ref C) "__setattr__" = some (some (.builtin "object.__setattr__"))
theorem Cls.get {K : PySem.W.Frag} {C : Addr} (c : Cls K C) (f : Str) : PySem.W.plainGet K C f = true := c.pg
def NoAttr (K : PySem.W.Frag) (C : Addr) (f : Str) : Prop := PySem.W.findIn K (.ref C) f = some none
theorem NoAttr.taker {K : PySem.W.Frag} {C : Addr} {f : Str} (n : NoAttr K C f) : PySem.W.takerIn K C f = some none := by
  unfold PySem.W.takerIn
  rw [show PySem.W.findIn K (.ref C) f = some none from n]
  rfl
structure Con (K : PySem.W.Frag) (C : Addr) (f : Str) (v : V) (u : Value) : Prop where
  at_ : PySem.W.findIn K (.ref C) f = some (some u)
  rel : RelV v u
  get : PySem.W.specialIn K u "__get__" = some none
  cp : PySem.W.copiedNames.contains f = false
structure Meth (K : PySem.W.Frag) (C : Addr) (m : Str) (f : Addr) : Prop where
  at_ : PySem.W.findIn K (.ref C) m = some (some (.ref f))
  fn : PySem.W.isFn K (.ref f) = true
  kp : PySem.W.keepIn K (.ref f) = true
section
variable {X : Cx} {pins : List (Addr × Obj)} {σ : St} {H : Hp} {s : Shared} {a C dx : Addr} {fs : List (Str × V)} {f : Str} {v : V} {A : Around} {E : Value → Shared → Prop}
theorem getattr_ok {b : Bool} {Q : Value → Shared → Prop} (I : Inv X pins σ H s) (e : H a = some (.ins C dx fs)) (c : Cls X.K C) (n : NoAttr X.K C f) (l : fs.lookup f = some v)
    (h : ∀ u s', Inv X pins σ H s' → RelV v u → Q u s') : wpAny (model X.prog X.w) A (getAttr (.ref a) f b) Q E s := by
  obtain ⟨mA, O, r, _, _, _⟩ := ins_get I.hok e
  obtain ⟨u, hu, ru⟩ := RelO.some_of (v := v) (o := mA f) (by rw [← l]; exact r f)
  exact get_map I.kIn O (c.get f) c.hd n hu (handed_of ru) (h u _ (I.tok _) ru)
theorem getmeth_ok {m : Str} {g : Addr} {pl : Sem Bool} {Q : Value × List Value → Shared → Prop} (I : Inv X pins σ H s) (e : H a = some (.ins C dx fs)) (c : Cls X.K C) (k : Meth X.K C m g) (l : fs.lookup m = none)
    (h : Q (.ref g, [.ref a]) s) : wpAny (model X.prog X.w) A (getMethod (.ref a) m pl) Q E s := by
  obtain ⟨mA, O, r, _, _, _⟩ := ins_get I.hok e
  have hn : mA m = none := RelO.none_of (by rw [← l]; exact r m)
  exact get_meth I.kIn O (c.get m) k.at_ k.fn hn h
theorem setattr_ok {y : V} {u : Value} {Q : Unit → Shared → Prop} (I : Inv X pins σ H s) (e : H a = some (.ins C dx fs)) (c : Cls X.K C) (n : NoAttr X.K C f) (hl : fs.length < 1000) (ry : RelV y u)
    (h : ∀ s', Inv X pins σ (upd H a (.ins C dx (putF f y fs))) s' → Q () s') : wpAny (model X.prog X.w) A (setAttr (.ref a) f u) Q E s := by
  obtain ⟨mA, O, r, wi, _, ho⟩ := ins_get I.hok e
  have hz : (fs.map (·.1)).length ≤ sizeLine := by rw [List.length_map, sizeLine_eq]; omega
  refine set_map I.kIn O c.sa c.po n.taker c.hd wi hz fun h' O' sb => h _ ?_
  have hd : ∃ o, h'.get? dx = some o := let ⟨o, _, _, e', _⟩ := O'.ns; ⟨o, e'⟩
  refine I.write (x := a) (e := dx) (by rw [e]; exact True.intro) (.inr ho) (fun b q hb z => (sb.2 b hb).trans z) hd ?_
  refine ⟨by rw [upd_ne O.ne]; exact ho, ?_, O.ne, O'.obj, _, O'.ns, fun g => ?_, fun g hg => ?_⟩
  · have := length_putF f y fs; omega
  · show RelO ((putF f y fs).lookup g) (if g = f then some u else mA g)
    rw [lookup_putF]
    by_cases q : g = f
    · rw [if_pos q, if_pos q]; exact ry
    · rw [if_neg q, if_neg q]; exact r g
  · by_cases q : g = f
    · rw [q]; exact (keys_putF f y fs).1
    · refine (keys_putF f y fs).2 g (wi g fun z => hg ?_)
      show (if g = f then some u else mA g) = none
      rw [if_neg q]; exact z
theorem Inv.made (I : Inv X pins σ H s) : Inv X pins σ (upd (upd H s.heap.objs.size (.own (s.heap.objs.size + 1))) (s.heap.objs.size + 1) (.ins C s.heap.objs.size []))
    { s with heap := (s.heap.push PySem.W.emptyDict).push (PySem.W.instObj C s.heap.objs.size) } := by
  have e1 : (s.heap.push PySem.W.emptyDict).get? s.heap.objs.size = some PySem.W.emptyDict := Heap.get?_push_size s.heap rfl
  have e2 : ((s.heap.push PySem.W.emptyDict).push (PySem.W.instObj C s.heap.objs.size)).get? (s.heap.objs.size + 1) = some (PySem.W.instObj C s.heap.objs.size) := by
    have := Heap.get?_push_size (s.heap.push PySem.W.emptyDict) (o := PySem.W.instObj C s.heap.objs.size) rfl
    rwa [Heap.size_push] at this
  have e3 : (s.heap.push PySem.W.emptyDict).Ns s.heap.objs.size (fun _ => none) := ⟨PySem.W.emptyDict, #[], _, e1, rfl, (fun e he => absurd he (by simp)), fun _ => rfl⟩
  have I1 := I.laid (a := s.heap.objs.size) (o := .own (s.heap.objs.size + 1)) (h' := s.heap.push PySem.W.emptyDict) (t' := s.toks) (fun b u q => Heap.get?_push_of_some _ q) (Nat.le_refl _) ⟨_, e1⟩
  refine I1.laid (a := s.heap.objs.size + 1) (o := .ins C s.heap.objs.size []) (t' := s.toks) (fun b u q => Heap.get?_push_of_some _ q) (Nat.le_of_eq (Heap.size_push _ _)) ?_
  have ne : s.heap.objs.size ≠ s.heap.objs.size + 1 := Nat.ne_of_lt (Nat.lt_succ_self _)
  refine ⟨by rw [upd_ne ne, upd_same], Nat.zero_le _, ne, e2, fun _ => none, (Heap.Ns1.of_empty e3).at fun o q => Heap.get?_push_of_some _ q, fun _ => True.intro, fun y hy => absurd rfl hy⟩
theorem attr_of {prog : Program} {w : World} {env : Env} {e : Expr} {f : Str} {pos : Pos} {s : Shared} {Q : Value → Shared → Prop} (hb : attributeBase e f env (eval e env) = eval e env)
    (h : wpAny (model prog w) A (eval e env) (fun o s₁ => wpAny (model prog w) A (getAttr o f true) Q E s₁) E s) : wpAny (model prog w) A (eval (.Attribute e f pos) env) Q E s :=
  Attribute_any_ h (by rw [arm_eval_Attribute, hb])
end
def tFld (K : PySem.W.Frag) (ta : TE) (f : Str) : TE := fun σ H Q => ta σ H fun x H1 => ∃ a C dx fs v, x = .ref a ∧ H1 a = some (.ins C dx fs) ∧ Cls K C ∧ NoAttr K C f ∧ fs.lookup f = some v ∧ Q v H1
def sFld (K : PySem.W.Frag) (ta tv : TE) (f : Str) : TS := fun D σ H => tv σ H fun y H1 => ta σ H1 fun x H2 => ∃ a C dx fs, x = .ref a ∧ H2 a = some (.ins C dx fs) ∧ Cls K C ∧ NoAttr K C f ∧ fs.length < 1000 ∧
  D.nx σ (upd H2 a (.ins C dx (putF f y fs)))
section
variable {X : Cx} {o e value : Expr} {f : Str} {pos pos' tpos : Pos} {ta tv : TE}
theorem pe_fld (he : PE X e ta) (hb : attributeBase e f X.env (eval e X.env) = eval e X.env) : PE X (.Attribute e f pos) (tFld X.K ta f) := by
  intro pins s σ H Q I h
  refine attr_of hb (thn (he pins s σ H _ I h) fun u s1 ⟨x, H1, I1, rx, a, C, dx, fs, v, ex, ea, c, n, l, q⟩ => ?_)
  subst ex
  obtain rfl : u = Value.ref a := rx
  exact getattr_ok I1 ea c n l fun u' s2 I2 ru => ⟨v, H1, I2, ru, q⟩
theorem ps_fld (ha : PE X o ta) (hv : PE X value tv) (hs : swapsWith value (some (.Attribute o f pos')) pos.line X.env = pure false) : PS X (.Assign [.Attribute o f pos'] value pos) (sFld X.K ta tv f) := by
  intro pins s σ H D I h
  refine plainObj_wpAny_Assign_Attribute (thn (hv pins s σ H _ I h) fun u s1 ⟨y, H1, I1, ry, q⟩ => thn (ha pins s1 σ H1 _ I1 q) fun ov s2 ⟨x, H2, I2, rx, a, C, dx, fs, ex, ea, c, n, l, q2⟩ => ?_) hs
  subst ex
  obtain rfl : ov = Value.ref a := rx
  exact setattr_ok I2 ea c n l ry fun s3 I3 => ⟨σ, _, I3, q2⟩
end
section
variable {X : Cx} {pins : List (Addr × Obj)} {σ : St} {H : Hp} {s : Shared} {A : Around} {E : Value → Shared → Prop} {Q : Value → Shared → Prop} {c : Value} {b : Bool}
inductive TyOf (K : PySem.W.Frag) (H : Hp) : V → Value → Prop where
  | non : TyOf K H .non (.type "NoneType")
  | bl (x : Bool) : TyOf K H (.bl x) (.type "bool")
  | int (i : Int) : TyOf K H (.int i) (.type "int")
  | str (x : Str) : TyOf K H (.str x) (.type "str")
  | flt (x : UInt64) : TyOf K H (.flt x) (.type "float")
  | lst {a : Addr} {xs : List V} (e : H a = some (.lst xs)) : TyOf K H (.ref a) (.type "list")
  | frz {a : Addr} {o : Obj} {xs : List V} (e : H a = some (.frz o (.lst xs))) : TyOf K H (.ref a) (.type "list")
  | tup {a : Addr} {xs : List V} (e : H a = some (.tup xs)) : TyOf K H (.ref a) (.type "tuple")
  | dK {a : Addr} {kvs : List (Key × V)} (e : H a = some (.dK kvs)) : TyOf K H (.ref a) (.type "dict")
  | dT {a : Addr} {kvs : List (List Key × V)} (e : H a = some (.dT kvs)) : TyOf K H (.ref a) (.type "dict")
  | ins {a C dx : Addr} {fs : List (Str × V)} (e : H a = some (.ins C dx fs)) (cl : Cls K C) (ha : PySem.W.findIn K (.ref C) "__class__" = some (some (.builtin "object.__class__")))
      (hn : PySem.W.specialIn K (.builtin "object.__class__") "__get__" = some (some (.builtin "getset_descriptor.__get__"))) (htk : PySem.W.takesIn K (.builtin "object.__class__") = some true)
      (hm : PySem.W.mroIn K C (.type "object") = some true) : TyOf K H (.ref a) (.ref C)
end
end L2
namespace L2
open PySem PySem.Spec PyProof.Rows
structure Room (k : Nat) (A : Around) : Prop where
  hd : A.handled = none
  dp : A.depth + 3 * k + 5 < recursionLimit
  un : A.units + 16 * k + 200 < cLine
theorem Room.mono {j k : Nat} {A : Around} (r : Room k A) (h : j ≤ k) : Room j A := ⟨r.hd, by have := r.dp; omega, by have := r.un; omega⟩
theorem Room.deeper {k : Nat} {A : Around} (r : Room (k + 1) A) (env : Env) : Room k (A.deeper env) :=
  ⟨r.hd, by have := r.dp; show A.depth + 1 + 3 * k + 5 < _; omega, by have := r.un; show A.units + 3 + 16 * k + 200 < _; omega⟩
theorem make_depth {A : Around} {C : Addr} {us : List Value} {kw : List (Str × Value)} : (A.under (.builtin "type.__call__" ⟨.ref C :: us, kw⟩)).depth = A.depth + 1 := by
  first | rfl | simp [Around.under, Code.weight, Code.isCreation, Code.isGuard, Code.isCaller, Code.frames, Code.isFrame, guardIds]
theorem make_units {A : Around} {C : Addr} {us : List Value} {kw : List (Str × Value)} : (A.under (.builtin "type.__call__" ⟨.ref C :: us, kw⟩)).units = A.units + 1 := by
  first | rfl | simp [Around.under, Code.cUnits, Code.frames, Code.isFrame]
theorem Room.make {k : Nat} {A : Around} (r : Room (k + 1) A) (C : Addr) (us : List Value) (kw : List (Str × Value)) : Room k (A.under (.builtin "type.__call__" ⟨.ref C :: us, kw⟩)) :=
  ⟨r.hd, by have := r.dp; rw [make_depth]; omega, by have := r.un; rw [make_units]; omega⟩
theorem Room.depth {k : Nat} {A : Around} (r : Room k A) : A.depth < recursionLimit := by have := r.dp; omega
theorem Room.units {k : Nat} {A : Around} (r : Room k A) : A.units + 64 < cLine := by have := r.un; omega
def tNil : TA := fun _ H Q => Q [] H
def tCons (ta : TE) (tr : TA) : TA := fun σ H Q => ta σ H fun x H1 => tr σ H1 fun xs H2 => Q (x :: xs) H2
section
variable {X : Cx} {e : Expr} {es : List Expr} {te : TE} {t : TA} {pos : Pos}
theorem pa_nil : PA X [] tNil := fun _ _ _ _ H Q I h => Calls.spliced_nil ⟨[], H, I, .nil, h⟩
theorem pa_cons (ha : PE X e te) (hr : PA X es t) (hs : starEach (e :: es) X.env = (false, eval e X.env) :: starEach es X.env := by rfl) : PA X (e :: es) (tCons te t) := by
  intro pos pins s σ H Q I h
  rw [hs]
  show wpAny _ _ (spliced ((false, eval e X.env) :: backTo pos (starEach es X.env))) _ _ s
  refine Calls.spliced_cons (thn (ha pins s σ H _ I h) fun u s1 ⟨x, H1, I1, r1, q1⟩ => ?_)
  exact thn (hr pos pins s1 σ H1 _ I1 q1) fun us s2 ⟨xs, H2, I2, r2, q2⟩ => ⟨x :: xs, H2, I2, .cons r1 r2, q2⟩
def tTup (t : TA) : TE := fun σ H Q => t σ H fun xs H1 => xs.length ≤ sizeLine ∧ ∀ p, H1 p = none → Q (.ref p) (upd H1 p (.tup xs))
def tLst (t : TA) : TE := fun σ H Q => t σ H fun xs H1 => xs.length ≤ sizeLine ∧ ∀ p, H1 p = none → Q (.ref p) (upd H1 p (.lst xs))
theorem pe_tup {x1} (h : PA X es t) : PE X (.Tuple es x1 pos) (tTup t) := by
  intro pins s σ H Q I hq
  refine wpAny_Tuple_spliced (thn (h pos pins s σ H _ I hq) fun us s1 ⟨xs, H1, I1, r, z, q⟩ => ⟨by rw [← r.length]; exact z, ?_⟩)
  have hf : H1 s1.heap.objs.size = none := I1.hok.fresh (Nat.le_refl _)
  refine ⟨.ref s1.heap.objs.size, upd H1 s1.heap.objs.size (.tup xs), I1.laid (t' := s1.toks) (fun b u e => Heap.get?_push_of_some _ e) (Nat.le_refl _) ?_, rfl, q _ hf⟩
  exact ⟨z, us, r, ⟨_, Heap.get?_push_size _ rfl, rfl, _, rfl⟩⟩
theorem pe_lst (h : PA X es t) : PE X (.List es pos) (tLst t) := by
  intro pins s σ H Q I hq
  refine wpAny_List_spliced (thn (h pos pins s σ H _ I hq) fun us s1 ⟨xs, H1, I1, r, z, q⟩ => ⟨by rw [← r.length]; exact z, ?_⟩)
  have hf : H1 s1.heap.objs.size = none := I1.hok.fresh (Nat.le_refl _)
  refine ⟨.ref s1.heap.objs.size, upd H1 s1.heap.objs.size (.lst xs), I1.laid (t' := s1.toks) (fun b u e => Heap.get?_push_of_some _ e) (Nat.le_refl _) ?_, rfl, q _ hf⟩
  exact ⟨z, us, 0, r, Heap.get?_push_size _ rfl⟩
end
abbrev Sp := List V → Hp → VK → XK → Prop
abbrev CXT := List Env → Hp → Shared → XK → Value → Shared → Prop
structure Env0 (P : Program) (w : World) (K : PySem.W.Frag) (mg : Str → Option Value) (base : Heap) (A : Around) (outer : List Env) (s : Shared) (H : Hp) : Prop where
  frames : A.frames = some outer
  mod : Mod K mg base
  bs : ∀ b o, base.get? b = some o → s.heap.get? b = some o ∧ H b = none
  bsz : base.objs.size ≤ s.heap.objs.size
  funs : s.heap.FunFrames base outer
  frf : ∀ b ∈ frs outer, H b = none
  hok : HOk P w H s.heap
  bare : AllBare s.gens
def CE (outer : List Env) (P : Program) (w : World) (H : Hp) (s : Shared) (Q : VK) (u : Value) (s' : Shared) : Prop :=
  ∃ v H', s'.os = s.os ∧ AllBare s'.gens ∧ Un (frs outer) [] H H' s.heap s'.heap ∧ HOk P w H' s'.heap ∧ RelV v u ∧ Q v H'
def CR (CX : CXT) (outer : List Env) (P : Program) (w : World) (H : Hp) (s : Shared) (Q : VK) (E : XK) (r : Result) (s' : Shared) : Prop :=
  match r with
  | .ok (.ret u) => CE outer P w H s Q u s'
  | .ok _ => False
  | .error e => CX outer H s E e s'
structure FnOk (P : Program) (w : World) (K : PySem.W.Frag) (mg : Str → Option Value) (base : Heap) (CX : CXT) (k : Nat) (f : Addr) (fd : FuncData) (ps : List Str) (sp : Sp) : Prop where
  len : ∀ vs H Q E, sp vs H Q E → vs.length = ps.length
  run : ∀ (A : Around) (outer : List Env) (s : Shared) (H : Hp) (args : Args) (us : List Value) (vs : List V) (Q : VK) (E : XK), Room k A → Env0 P w K mg base A outer s H → BindsTo s fd args (ps.zip us) → Vals vs us → sp vs H Q E →
    codeAny (model P w) A (.call (.ref f) args) (CR CX outer P w H s Q E) s
theorem FnOk.mono {P : Program} {w : World} {K : PySem.W.Frag} {mg : Str → Option Value} {base : Heap} {CX : CXT} {j k : Nat} {f : Addr} {fd : FuncData} {ps : List Str} {sp : Sp} (F : FnOk P w K mg base CX j f fd ps sp) (h : j ≤ k) :
    FnOk P w K mg base CX k f fd ps sp := ⟨F.len, fun A outer s H args us vs Q E hr => F.run A outer s H args us vs Q E (hr.mono h)⟩
theorem Env0.make {P : Program} {w : World} {K : PySem.W.Frag} {mg : Str → Option Value} {base : Heap} {A : Around} {outer : List Env} {s : Shared} {H : Hp} (e : Env0 P w K mg base A outer s H) (C : Addr) (us : List Value) (kw : List (Str × Value)) :
    Env0 P w K mg base (A.under (.builtin "type.__call__" ⟨.ref C :: us, kw⟩)) outer s H := ⟨by first | exact e.frames | (simpa [Around.under, Code.envs, Code.isFrame, pushEnvs] using e.frames), e.mod, e.bs, e.bsz, e.funs, e.frf, e.hok, e.bare⟩
section
variable {X : Cx} {pins : List (Addr × Obj)} {σ : St} {H : Hp} {s s' : Shared}
theorem Inv.env0 (I : Inv X pins σ H s) : Env0 X.prog X.w X.K X.mg X.base X.A X.stack s H :=
  ⟨I.ok.frames, I.ok.mod, I.bs, Nat.le_trans I.ok.bsz I.sz, I.stack, I.stkFree, I.hok, I.bare⟩
theorem Inv.after {Q : VK} {u : Value} (I : Inv X pins σ H s) (h : CE X.stack X.prog X.w H s Q u s') : EP X pins σ Q u s' := by
  obtain ⟨v, H', os, bare, un, hok, r, q⟩ := h
  obtain ⟨hh, g, d, t, os'⟩ := s'
  obtain rfl : os' = s.os := os
  exact ⟨v, H', I.call (h' := hh) (g' := g) (d' := d) (t' := t) (ch := []) un hok bare (fun b z => absurd z (by simp)), r, q⟩
end
def tCall (sp : Sp) (dvs : List V) (E : XK) (t : TA) : TE := fun σ H Q => t σ H fun vs H1 => sp (vs ++ dvs) H1 Q E
def tMeth (C : Addr) (m : Str) (sp : Sp) (dvs : List V) (E : XK) (ta : TE) (t : TA) : TE := fun σ H Q => ta σ H fun x H1 => ∃ a dx fs, x = .ref a ∧ H1 a = some (.ins C dx fs) ∧ fs.lookup m = none ∧
  t σ H1 fun vs H2 => sp (x :: (vs ++ dvs)) H2 Q E
def tMake (C : Addr) (sp : Sp) (dvs : List V) (E : XK) (t : TA) : TE := fun σ H Q => t σ H fun vs H1 => ∀ x dx, H1 x = none → H1 dx = none → dx ≠ x →
  sp (.ref x :: (vs ++ dvs)) (upd (upd H1 dx (.own x)) x (.ins C dx [])) (fun v H2 => v = .non ∧ Q (.ref x) H2) E
def Binds (K : PySem.W.Frag) (fd : FuncData) (ps : List Str) (ds : List Value) : Prop :=
  ∀ (s : Shared) (us : List Value), K.In s.heap → (us ++ ds).length = ps.length → BindsTo s fd ⟨us, []⟩ (ps.zip (us ++ ds))
theorem Binds.all {K : PySem.W.Frag} {fd : FuncData} {ps : List Str} (h : ∀ us : List Value, us.length = ps.length → bindArgs fd ⟨us, []⟩ = pure (ps.zip us)) : Binds K fd ps [] := fun s us _ hl => by
  rw [List.append_nil] at hl ⊢
  exact .of_eq (h us hl)
def Passes (CX : CXT) (X : Cx) (E : XK) : Prop := ∀ (pins : List (Addr × Obj)) (σ : St) (H : Hp) (s : Shared) (e : Value) (s' : Shared), Inv X pins σ H s → CX X.stack H s E e s' → X.xe e s'
section
variable {X : Cx} {CX : CXT} {k : Nat} {f C : Addr} {fd : FuncData} {ps : List Str} {sp : Sp} {dvs : List V} {ds : List Value} {E : XK} {x m : Str} {p pos apos : Pos} {e o : Expr} {es : List Expr} {ta : TE} {t : TA}
theorem run_fn {pins : List (Addr × Obj)} {σ : St} {H : Hp} {s : Shared} {Q : VK} {us : List Value} {vs : List V} (F : FnOk X.prog X.w X.K X.mg X.base CX k f fd ps sp) (hr : Room k X.A) (hb : Binds X.K fd ps ds) (hd : Vals dvs ds) (hx : Passes CX X E)
    (I : Inv X pins σ H s) (r : Vals vs us) (h : sp (vs ++ dvs) H Q E) : wpAny (model X.prog X.w) X.A (call (.ref f) us) (EP X pins σ Q) X.xe s := by
  have r2 : Vals (vs ++ dvs) (us ++ ds) := r.append hd
  have hl : (us ++ ds).length = ps.length := by rw [← r2.length]; exact F.len _ _ _ _ h
  refine wpAny_call (codeAny_mono (F.run X.A X.stack s H ⟨us, []⟩ (us ++ ds) (vs ++ dvs) Q E hr I.env0 (hb s us I.kIn hl) r2 h) fun r s' hq => ?_)
  cases r with
  | error e => exact hx pins σ H s e s' I hq
  | ok fl =>
    cases fl with
    | ret u => exact I.after hq
    | next => exact False.elim hq
    | brk => exact False.elim hq
    | cont => exact False.elim hq
theorem pe_call (F : FnOk X.prog X.w X.K X.mg X.base CX k f fd ps sp) (hr : Room k X.A) (hg : Gl X x) (hm : X.mg x = some (.ref f)) (hk : PySem.W.keepIn X.K (.ref f) = true) (hb : Binds X.K fd ps ds) (hd : Vals dvs ds) (hx : Passes CX X E)
    (ha : PA X (e :: es) t) (hdb : (x == ("__debug__" : Str)) = false := by decide) (he : starEach (e :: es) X.env = (false, eval e X.env) :: starEach es X.env := by rfl) (hpl : (backTo pos (starEach es X.env)).any (·.1) = false := by rfl) :
    PE X (.Call (.Name x p) (e :: es) [] pos) (tCall sp dvs E t) := by
  intro pins s σ H Q I h
  refine wpAny_Call_Name_kw (ld_glob I hg hm ?_ hdb)
  refine PySem.W.callWith_K (h₀ := X.base) I.ok.mod.kin hk (thn (ha pos pins s σ H _ I h) fun us s1 ⟨vs, H1, I1, r, q⟩ => ⟨I1.kIn, ?_⟩) he hpl
  exact run_fn F hr hb hd hx I1 r q
theorem pe_meth {pl : Sem Bool} (he : PE X o ta) (c : Cls X.K C) (hm : Meth X.K C m f) (F : FnOk X.prog X.w X.K X.mg X.base CX k f fd ps sp) (hr : Room k X.A) (hb : Binds X.K fd ps ds) (hd : Vals dvs ds) (hx : Passes CX X E) (ha : PA X (e :: es) t)
    (hst : starEach (e :: es) X.env = (false, eval e X.env) :: starEach es X.env := by rfl) (hpl : (backTo pos (starEach es X.env)).any (·.1) = false := by rfl)
    (ht : eval (.Call (.Attribute o m apos) (e :: es) [] pos) X.env = (do
      let ov ← eval o X.env
      standAt apos.atName
      let (f, first) ← holding [ov] (getMethod ov m pl)
      callWith pos f first (backTo pos (starEach (e :: es) X.env)) (backToKw pos (keywordEach [] X.env))) := by rfl) :
    PE X (.Call (.Attribute o m apos) (e :: es) [] pos) (tMeth C m sp dvs E ta t) := by
  intro pins s σ H Q I h
  refine PySem.W.methodCall_KW (pl := pl) (thn (he pins s σ H _ I h) fun u s1 ⟨x, H1, I1, rx, a, dx, fs, ex, ea, l, q⟩ => ?_) ht
  subst ex
  obtain rfl : u = Value.ref a := rx
  refine getmeth_ok I1 ea c hm l ?_
  refine PySem.W.callWith_K (first := [.ref a]) (h₀ := X.base) I.ok.mod.kin hm.kp (thn (ha pos pins s1 σ H1 _ I1 q) fun us s2 ⟨vs, H2, I2, r, q2⟩ => ⟨I2.kIn, ?_⟩) hst hpl
  exact run_fn (us := .ref a :: us) (vs := .ref a :: vs) F hr hb hd hx I2 (.cons rfl r) q2
theorem pe_meth0 {pl : Sem Bool} (he : PE X o ta) (c : Cls X.K C) (hm : Meth X.K C m f) (F : FnOk X.prog X.w X.K X.mg X.base CX k f fd ps sp) (hr : Room k X.A) (hb : Binds X.K fd ps ds) (hd : Vals dvs ds) (hx : Passes CX X E)
    (ht : eval (.Call (.Attribute o m apos) [] [] pos) X.env = (do
      let ov ← eval o X.env
      standAt apos.atName
      let (f, first) ← holding [ov] (getMethod ov m pl)
      callWith pos f first (backTo pos (starEach [] X.env)) (backToKw pos (keywordEach [] X.env))) := by rfl) :
    PE X (.Call (.Attribute o m apos) [] [] pos) (tMeth C m sp dvs E ta tNil) := by
  intro pins s σ H Q I h
  refine PySem.W.methodCall_KW (pl := pl) (thn (he pins s σ H _ I h) fun u s1 ⟨x, H1, I1, rx, a, dx, fs, ex, ea, l, q⟩ => ?_) ht
  subst ex
  obtain rfl : u = Value.ref a := rx
  refine getmeth_ok I1 ea c hm l ?_
  exact PySem.W.callWith_K0 (first := [.ref a]) I1.kIn hm.kp (run_fn (us := [.ref a]) (vs := [.ref a]) F hr hb hd hx I1 (.cons rfl .nil) q)
structure Mk (K : PySem.W.Frag) (C f : Addr) : Prop where
  makes : PySem.W.makesIn K C = true
  init : PySem.W.findIn K (.ref C) "__init__" = some (some (.ref f))
  fn : PySem.W.isFn K (.ref f) = true
  kp : PySem.W.keepIn K (.ref C) = true
theorem run_make {pins : List (Addr × Obj)} {σ : St} {H : Hp} {s : Shared} {Q : VK} {us : List Value} {vs : List V} (M : Mk X.K C f) (F : FnOk X.prog X.w X.K X.mg X.base CX k f fd ps sp) (hr : Room (k + 1) X.A) (hb : Binds X.K fd ps ds) (hd : Vals dvs ds)
    (hx : Passes CX X E) (I : Inv X pins σ H s) (r : Vals vs us)
    (h : ∀ x dx, H x = none → H dx = none → dx ≠ x → sp (.ref x :: (vs ++ dvs)) (upd (upd H dx (.own x)) x (.ins C dx [])) (fun v H2 => v = .non ∧ Q (.ref x) H2) E) :
    wpAny (model X.prog X.w) X.A (call (.ref C) us) (EP X pins σ Q) X.xe s := by
  have hq := h (s.heap.objs.size + 1) s.heap.objs.size (I.hok.fresh (Nat.le_succ _)) (I.hok.fresh (Nat.le_refl _)) (Nat.ne_of_lt (Nat.lt_succ_self _))
  have I2 := Inv.made (C := C) I
  have r2 : Vals (V.ref (s.heap.objs.size + 1) :: (vs ++ dvs)) (Value.ref (s.heap.objs.size + 1) :: (us ++ ds)) := .cons rfl (r.append hd)
  have hl : (Value.ref (s.heap.objs.size + 1) :: us ++ ds).length = ps.length := by
    have e := r2.length
    rw [F.len _ _ _ _ hq] at e
    exact e.symm
  refine wpAny_call (make_map (f := f) I.kIn M.makes M.init (beq_iff_eq.mp M.fn) (codeAny_mono (F.run _ X.stack _ _ ⟨Value.ref (s.heap.objs.size + 1) :: us, []⟩ (Value.ref (s.heap.objs.size + 1) :: (us ++ ds)) _ _ E (hr.make C us [])
    (I2.env0.make C us []) (hb _ (Value.ref (s.heap.objs.size + 1) :: us) I2.kIn hl) r2 hq) fun r s' hq' => ?_))
  cases r with
  | error e => exact hx pins σ _ _ e s' I2 hq'
  | ok fl =>
    cases fl with
    | ret u =>
      obtain ⟨v, H', I3, rv, ev, q3⟩ := I2.after hq'
      subst ev
      exact ⟨rv, ⟨V.ref (s.heap.objs.size + 1), H', I3, rfl, q3⟩⟩
    | next => exact False.elim hq'
    | brk => exact False.elim hq'
    | cont => exact False.elim hq'
theorem pe_make0 (M : Mk X.K C f) (F : FnOk X.prog X.w X.K X.mg X.base CX k f fd ps sp) (hr : Room (k + 1) X.A) (hg : Gl X x) (hm : X.mg x = some (.ref C)) (hb : Binds X.K fd ps ds) (hd : Vals dvs ds) (hx : Passes CX X E)
    (hdb : (x == ("__debug__" : Str)) = false := by decide) : PE X (.Call (.Name x p) [] [] pos) (tMake C sp dvs E tNil) := by
  intro pins s σ H Q I h
  refine wpAny_Call_Name_kw (ld_glob I hg hm ?_ hdb)
  exact PySem.W.callWith_K0 I.kIn M.kp (run_make (us := []) M F hr hb hd hx I .nil h)
end
section
variable {X : Cx} {CX : CXT} {k : Nat} {f C : Addr} {fd : FuncData} {ps ks : List Str} {sp : Sp} {E : XK} {x m : Str} {p pos apos kpos : Pos} {e o : Expr} {es : List Expr} {kws : List Keyword} {te ta : TE} {t tk : TA} {nm : Option Str}
structure KBinds (K : PySem.W.Frag) (fd : FuncData) (ps ks : List Str) (g : List Value → List Value → List Value) (gV : List V → List V → List V) : Prop where
  to : ∀ (s : Shared) (us ws : List Value), K.In s.heap → (g us ws).length = ps.length → BindsTo s fd ⟨us, ks.zip ws⟩ (ps.zip (g us ws))
  rel : ∀ {vs : List V} {us : List Value} {zs : List V} {ws : List Value}, Vals vs us → Vals zs ws → Vals (gV vs zs) (g us ws)
variable {g : List Value → List Value → List Value} {gV : List V → List V → List V}
end
structure FnScope (N P : List Str) (sc : Scope) : Prop where
  kind : sc.kind = .function
  co : sc.isCoroutine = false
  gen : sc.isGenerator = false
  nd : N.Nodup
  pre : N.take P.length = P
  par : ∀ x ∈ P, sc.names.lookup x = some .local ∨ sc.names.lookup x = some .cell
  nofree : ∀ y ∈ sc.names, y.2 ≠ .free
theorem bindL_out {kindOf : Str → Option NameKind} {x : Str} : ∀ {binds : List (Str × Value)} {m : Str → Option Value}, (∀ v, (x, v) ∉ binds) → bindL kindOf binds m x = m x
  | [], _, _ => rfl
  | (n, v) :: r, m, h => by
    unfold bindL
    rw [bindL_out fun w hw => h w (List.mem_cons_of_mem _ hw)]
    split
    · have : x ≠ n := by rintro rfl; exact h v List.mem_cons_self
      simp [this]
    · rfl
theorem bindC_out {kindOf : Str → Option NameKind} {x : Str} : ∀ {binds : List (Str × Value)} {m : Str → Option Value}, (∀ v, (x, v) ∉ binds) → bindC kindOf binds m x = m x
  | [], _, _ => rfl
  | (n, v) :: r, m, h => by
    unfold bindC
    rw [bindC_out fun w hw => h w (List.mem_cons_of_mem _ hw)]
    split
    · rfl
    · have : x ≠ n := by rintro rfl; exact h v List.mem_cons_self
      simp [this]
theorem bindL_get {kindOf : Str → Option NameKind} {x : Str} {v : Value} : ∀ {P : List Str} {vs : List Value} {i : Nat} {m : Str → Option Value}, P.Nodup → P[i]? = some x → vs[i]? = some v → kindOf x = some .local →
    bindL kindOf (P.zip vs) m x = some v
  | [], _, _, _, _, h, _, _ => by simp at h
  | _ :: _, [], _, _, _, _, h, _ => by simp at h
  | p :: P, w :: vs, 0, m, nd, h1, h2, hk => by
    simp at h1 h2; subst h1; subst h2
    show bindL kindOf ((p, w) :: P.zip vs) m p = _
    unfold bindL
    rw [bindL_out fun v hv => (List.nodup_cons.mp nd).1 (List.of_mem_zip hv).1, if_pos hk]
    simp
  | p :: P, w :: vs, i + 1, m, nd, h1, h2, hk => by
    show bindL kindOf ((p, w) :: P.zip vs) m x = _
    unfold bindL
    exact bindL_get (i := i) (List.nodup_cons.mp nd).2 (by simpa using h1) (by simpa using h2) hk
theorem bindC_get {kindOf : Str → Option NameKind} {x : Str} {v : Value} : ∀ {P : List Str} {vs : List Value} {i : Nat} {m : Str → Option Value}, P.Nodup → P[i]? = some x → vs[i]? = some v → kindOf x ≠ some .local →
    bindC kindOf (P.zip vs) m x = some v
  | [], _, _, _, _, h, _, _ => by simp at h
  | _ :: _, [], _, _, _, _, h, _ => by simp at h
  | p :: P, w :: vs, 0, m, nd, h1, h2, hk => by
    simp at h1 h2; subst h1; subst h2
    show bindC kindOf ((p, w) :: P.zip vs) m p = _
    unfold bindC
    rw [bindC_out fun v hv => (List.nodup_cons.mp nd).1 (List.of_mem_zip hv).1, if_neg hk]
    simp
  | p :: P, w :: vs, i + 1, m, nd, h1, h2, hk => by
    show bindC kindOf ((p, w) :: P.zip vs) m x = _
    unfold bindC
    exact bindC_get (i := i) (List.nodup_cons.mp nd).2 (by simpa using h1) (by simpa using h2) hk
def start (N : List Str) (vs : List V) : St := vs.map some ++ List.replicate (N.length - vs.length) none
def cxOf (CX : CXT) (P : Program) (w : World) (K : PySem.W.Frag) (mg : Str → Option Value) (base : Heap) (N : List Str) (qual : Str) (scope : Scope) (f : Addr) (cd : Value) (A : Around) (outer : List Env) (s : Shared) (H : Hp) (E : XK) : Cx where
  prog := P
  w := w
  K := K
  mg := mg
  base := base
  A := A.deeper (envOfC qual scope s.heap.objs.size f cd)
  N := N
  s_0 := s
  H_0 := H
  env := envOfC qual scope s.heap.objs.size f cd
  outer := outer
  stack := envOfC qual scope s.heap.objs.size f cd :: outer
  ex := []
  calm := true
  fn := fun _ => true
  pn := []
  xe := fun e s' => wpAny (model P w) (A.deeper (envOfC qual scope s.heap.objs.size f cd)) (leaving (envOfC qual scope s.heap.objs.size f cd) e) (fun _ s'' => CX outer H s E e s'') (fun e' s'' => CX outer H s E e' s'') s'
theorem cell_has {sc : Scope} {n : Nat} {x : Str} (h : sc.names.lookup x = some .cell) : ∃ c, (cellsFrom n sc.names []).lookup x = some c := by
  have q := PySem.W.cellsFrom_some sc.names n [] (.inl h)
  exact Option.isSome_iff_exists.mp q
theorem inv_start {CX : CXT} {P : Program} {w : World} {K : PySem.W.Frag} {mg : Str → Option Value} {base : Heap} {N ps : List Str} {qual : Str} {scope : Scope} {f : Addr} {cd : Value} {A : Around} {outer : List Env} {s s1 : Shared} {H : Hp} {E : XK} {us : List Value} {vs : List V}
    (S : FnScope N ps scope) (hd : A.handled = none) (e0 : Env0 P w K mg base A outer s H) (hl : vs.length = ps.length) (r : Vals vs us)
    (x : InCallC s s.heap.objs.size (bindL (envOfC qual scope s.heap.objs.size f cd).kindOf (ps.zip us) fun _ => none) (cellsFrom (s.heap.objs.size + 1) scope.names []) (bindC (envOfC qual scope s.heap.objs.size f cd).kindOf (ps.zip us) fun _ => none) s1) :
    Inv (cxOf CX P w K mg base N qual scope f cd A outer s H E) [] (start N vs) H s1 := by
  have hpl : ps.length ≤ N.length := by have := congrArg List.length S.pre; rw [List.length_take] at this; omega
  obtain ⟨h1, tk, rfl, hk⟩ := x.done
  have noA : ∀ b : Addr, b ∉ (cxOf CX P w K mg base N qual scope f cd A outer s H E).ex := fun b z => absurd (show b ∈ ([] : List Addr) from z) (by simp)
  refine ⟨⟨e0.mod, S.kind, rfl, rfl, Nat.le_refl _, fun y z c h1 h2 => ?_, fun y hy => ?_, fun y c _ h => ?_, fun _ => hd, Around.frames_deeper e0.frames, .inr ⟨rfl, rfl⟩, fun b z => absurd z (noA b), e0.bs, e0.bsz, fun b _ _ => noA b, fun b z => absurd z (noA b), e0.funs, e0.frf⟩,
    rfl, e0.bare, Un.kept hk, ⟨_, x.toInCall.ns, fun i y v h1 h2 h3 => ?_⟩, fun y c h => ⟨_, x.cell y c h⟩, e0.hok.fresh (Nat.le_refl _), fun y c h => ?_, fun p hp => absurd (show p ∈ ([] : List (Addr × Obj)) from hp) (by simp), e0.hok.kept hk, ?_⟩
  · exact name_of_addr x.apart (PySem.mem_of_lookup h1) (PySem.mem_of_lookup h2)
  · have hy : scope.names.lookup y = some .cell ∨ scope.names.lookup y = some .free := hy
    rcases hy with hy | hy
    · exact cell_has hy
    · exact absurd rfl (S.nofree _ (PySem.mem_of_lookup hy))
  · exact Nat.le_of_lt (x.above y c (PySem.mem_of_lookup h))
  · have hi : i < vs.length := by
      unfold start at h2
      by_cases hi : i < vs.length
      · exact hi
      · rw [List.getElem?_append_right (by simpa using hi)] at h2
        rw [List.getElem?_replicate] at h2
        split at h2 <;> cases h2
    have ha : vs[i]? = some v := by
      unfold start at h2
      rw [List.getElem?_append_left (by simpa using hi), List.getElem?_map] at h2
      cases e : vs[i]? with
      | none => rw [e] at h2; cases h2
      | some a => rw [e] at h2; cases h2; rfl
    obtain ⟨u, hu, rv⟩ := r.get ha
    have hp : ps[i]? = some y := by
      rw [← S.pre, List.getElem?_take_of_lt (by omega)]; exact h1
    have ndP : ps.Nodup := by rw [← S.pre]; exact S.nd.sublist (List.take_sublist _ _)
    refine ⟨u, rv, ?_⟩
    rcases S.par y (List.mem_of_getElem? hp) with k | k
    · exact .inl ⟨k, bindL_get ndP hp hu k⟩
    · obtain ⟨c, e⟩ := cell_has (n := s.heap.objs.size + 1) k
      refine .inr ⟨.inl k, c, e, ?_⟩
      have q := x.cell y c e
      rw [bindC_get ndP hp hu (by show scope.names.lookup y ≠ _; rw [k]; decide)] at q
      exact q
  · exact e0.hok.fresh (Nat.le_of_lt (x.above y c (PySem.mem_of_lookup h)))
  · unfold start
    show _ = N.length
    rw [List.length_append, List.length_map, List.length_replicate]
    omega
theorem fn_of {CX : CXT} {P : Program} {w : World} {K : PySem.W.Frag} {mg : Str → Option Value} {base : Heap} {k : Nat} {f : Addr} {name qual : Str} {params : Arguments} {body : List Stmt} {scope : Scope} {dV kV doc pm cdv ct oc : Value} {an od : Option Addr}
    {osl : Array (Option Value)} {N ps : List Str} {sp : Sp} (lk : K.lookup f = some ⟨oc, od, .func (PySem.W.fnOf name qual params body scope dV kV doc pm an cdv ct), osl⟩) (hcd : PySem.W.codeIn K cdv qual = true) (S : FnScope N ps scope)
    (len : ∀ vs H Q E, sp vs H Q E → vs.length = ps.length)
    (hbody : ∀ (A : Around) (outer : List Env) (s : Shared) (H : Hp) (vs : List V) (Q : VK) (E : XK), Room k (A.deeper (envOfC qual scope s.heap.objs.size f cdv)) → sp vs H Q E →
      ∃ t, PSs (cxOf CX P w K mg base N qual scope f cdv A outer s H E) body t ∧ t { nx := fun _ H' => Q .non H', rt := Q } (start N vs) H) :
    FnOk P w K mg base CX (k + 1) f (PySem.W.fnOf name qual params body scope dV kV doc pm an cdv ct) ps sp := by
  refine ⟨len, fun A outer s H args us vs Q E hr e0 hb r hsp => ?_⟩
  have hl := len _ _ _ _ hsp
  have KX : K.In s.heap := e0.mod.kin.keeps fun b o e => (e0.bs b o e).1
  have lim : s.heap.NoLimit := e0.mod.nolimit.keeps fun b o e => (e0.bs b o e).1
  have hkind : ∀ y ∈ ps.zip us, scope.names.lookup y.1 = some .local ∨ (scope.names.lookup y.1 = some .cell ∧ ((cellsFrom (s.heap.objs.size + 1) scope.names []).lookup y.1).isSome = true) := fun ⟨n, v⟩ hy => by
    rcases S.par n (List.of_mem_zip hy).1 with q | q
    · exact .inl q
    · exact .inr ⟨q, PySem.W.cellsFrom_some _ _ _ (.inl q)⟩
  refine codeAny_call_function hr.depth (KX _ _ lk) rfl S.co S.gen rfl (PySem.W.codeRec_of KX hcd) (hb _ _ _ _ ?_)
  refine wpAny_newFunctionEnv_cells S.kind hkind fun env he s1 x => ?_
  subst he
  refine ⟨lim.keeps x.toInCall.keep, codeAny_func ?_⟩
  obtain ⟨t, ht, hq⟩ := hbody A outer s H vs Q E (hr.deeper _) hsp
  have I : Inv (cxOf CX P w K mg base N qual scope f cdv A outer s H E) [] (start N vs) H s1 := inv_start S hr.hd e0 hl r x
  refine wpAny_mono (ht [] s1 (start N vs) H _ I hq) (fun fl s' hs => ?_) fun e s' hs => hs
  have fin : ∀ {σ' : St} {H' : Hp} {v : V} {u : Value}, Inv (cxOf CX P w K mg base N qual scope f cdv A outer s H E) [] σ' H' s' → RelV v u → Q v H' → CE outer P w H s Q u s' :=
    fun {σ' H' v u} J rv q => ⟨v, H', J.os, J.bare, J.base, J.hok, rv, q⟩
  cases fl with
  | ret u =>
    obtain ⟨v, σ', H', J, rv, q⟩ := hs
    exact fin J rv q
  | next =>
    obtain ⟨σ', H', J, q⟩ := hs
    exact fin (v := V.non) (u := Value.none) J rfl q
  | brk =>
    obtain ⟨_, _, _, q⟩ := hs
    exact False.elim q
  | cont =>
    obtain ⟨_, _, _, q⟩ := hs
    exact False.elim q
end L2
namespace L2
open PySem PySem.Spec PyProof.Rows
section
variable {X : Cx} {x : Str} {p pos : Pos} {e : Expr} {es : List Expr} {t : TA} {id T : String} {r : List V → Hp → VK → Prop}
def tCB (r : List V → Hp → VK → Prop) (t : TA) : TE := fun σ H Q => t σ H fun vs H1 => r vs H1 Q
theorem pe_callB (hc : CallR X (.builtin id) r) (hg : Gl X x) (hm : X.mg x = none) (hv : bootBuiltins x = some (.builtin id)) (ha : PA X (e :: es) t) (hn : x ≠ "__name__" := by decide) (hdb : (x == ("__debug__" : Str)) = false := by decide)
    (he : starEach (e :: es) X.env = (false, eval e X.env) :: starEach es X.env := by rfl) (hpl : (backTo pos (starEach es X.env)).any (·.1) = false := by rfl) : PE X (.Call (.Name x p) (e :: es) [] pos) (tCB r t) := by
  intro pins s σ H Q I h
  refine wpAny_Call_Name_kw (ld_blt I hg hm hv ?_ hn hdb)
  exact PyProof.Rows.callWith_builtin1 (thn (ha pos pins s σ H _ I h) fun us s1 ⟨vs, H1, I1, r1, q1⟩ => hc pins s1 σ H1 vs us Q I1 r1 q1) he hpl
end
end L2
namespace HT
open PySem PyProof.Rows
section
open PySem.SeqAt
open PySem.AutoSeq1 (wpAny_loadPart')
open PySem.MeetsSeq PySem.MeetsSeq2 PySem.MeetsSeq3
end
section
variable {prog : Program} {w : World} {A : Around} {E : Value → Shared → Prop} {s : Shared}
def sIx (n d : Nat) : Option Int → Nat
  | none => d
  | some v => if v < 0 then (v + (n : Int)).toNat else min v.toNat n
theorem sIx_none (n d : Nat) : sIx n d none = d := rfl
theorem sIx_nat (n d k : Nat) : sIx n d (some (k : Int)) = min k n := by
  show (if (k : Int) < 0 then ((k : Int) + (n : Int)).toNat else min (k : Int).toNat n) = min k n
  rw [if_neg (by omega), Int.toNat_natCast]
end
end HT
namespace L2
open PySem PySem.Spec PyProof.Rows
abbrev TO := St → Hp → (Option Int → Hp → Prop) → Prop
def PO (X : Cx) (e : Option Expr) (t : TO) : Prop :=
  ∀ (pins : List (Addr × Obj)) (s : Shared) (σ : St) (H : Hp) (Q : Option Int → Hp → Prop), Inv X pins σ H s → t σ H Q →
    wpAny (model X.prog X.w) X.A (evalPart e X.env) (fun u s' => ∃ o H', Inv X pins σ H' s' ∧ IsPart u o ∧ Q o H') X.xe s
def tNoPart : TO := fun _ H Q => Q none H
def tPart (t : TE) : TO := fun σ H Q => t σ H fun x H1 => ∃ i, x = .int i ∧ Q (some i) H1
section
variable {X : Cx} {e : Expr} {te : TE} {lo hi : Option Expr} {tl th : TO} {pos p2 : Pos}
theorem po_none : PO X none tNoPart := by
  intro pins s σ H Q I h
  rw [evalPart_none]
  exact wpAny_pure ⟨none, H, I, .none, h⟩
theorem po_some (h : PE X e te) : PO X (some e) (tPart te) := by
  intro pins s σ H Q I hw
  rw [evalPart_some]
  refine thn (h pins s σ H _ I hw) fun u s1 ⟨x, H1, I1, r1, q1⟩ => ?_
  obtain ⟨i, rfl, q⟩ := q1
  obtain ⟨t, rfl⟩ := r1
  exact ⟨some i, H1, I1, .int i t, q⟩
def SlR (X : Cx) (r : V → Option Int → Option Int → Hp → VK → Prop) : Prop :=
  ∀ (pins : List (Addr × Obj)) (s : Shared) (σ : St) (H : Hp) (x : V) (v vl vu : Value) (lo hi : Option Int) (sl : Addr) (Q : VK), Inv X pins σ H s → RelV x v → s.heap.IsSliceOf sl vl vu .none → IsPart vl lo → IsPart vu hi → r x lo hi H Q →
    ∃ T id, typeLookup (.type T) "__getitem__" = pure (some (.builtin id)) ∧ s.TypeIs v T ∧ wpAny (model X.prog X.w) X.A (getItem v (.ref sl)) (EP X pins σ Q) X.xe s
def tSl (r : V → Option Int → Option Int → Hp → VK → Prop) (te : TE) (tl th : TO) : TE := fun σ H Q => te σ H fun x H1 => tl σ H1 fun l H2 => th σ H2 fun u H3 => r x l u H3 Q
theorem pe_slice {r : V → Option Int → Option Int → Hp → VK → Prop} (hr : SlR X r) (he : PE X e te) (hl : PO X lo tl) (hu : PO X hi th) : PE X (.Subscript e (.Slice lo hi none p2) pos) (tSl r te tl th) := by
  intro pins s σ H Q I h
  refine Subscript_ (thn (he pins s σ H _ I h) fun v s1 ⟨x, H1, I1, r1, q1⟩ => ?_)
  refine wpAny_Slice (thn (hl pins s1 σ H1 _ I1 q1) fun vl s2 ⟨l, H2, I2, pl, q2⟩ => thn (hu pins s2 σ H2 _ I2 q2) fun vu s3 ⟨u, H3, I3, pu, q3⟩ => ?_)
  rw [evalPart_none]
  refine wpAny_pure ?_
  have I4 : Inv X pins σ H3 { s3 with heap := s3.heap.push { cls := .type "slice", data := .fields #[vl, vu, .none] } } := I3.kept (t' := s3.toks) fun b ob q => Heap.get?_push_of_some _ q
  obtain ⟨T, id, hT, ht, hg⟩ := hr pins { s3 with heap := s3.heap.push { cls := .type "slice", data := .fields #[vl, vu, .none] } } σ H3 x v vl vu l u s3.heap.objs.size Q I4 r1 (Heap.IsSliceOf.new ..) pl pu q3
  show wpAny (model X.prog X.w) X.A (subscriptTail e (.Slice lo hi none p2) v (.ref s3.heap.objs.size)) (EP X pins σ Q) X.xe { s3 with heap := s3.heap.push { cls := .type "slice", data := .fields #[vl, vu, .none] } }
  exact tail_any (ops := [.ref s3.heap.objs.size, v]) ht hT hg (by with_unfolding_all rfl)
def cutV (xs : List V) (lo hi : Option Int) : List V := (xs.drop (HT.sIx xs.length 0 lo)).take (HT.sIx xs.length xs.length hi - HT.sIx xs.length 0 lo)
theorem cutV_length (xs : List V) (lo hi : Option Int) : (cutV xs lo hi).length ≤ xs.length := by
  unfold cutV
  rw [List.length_take, List.length_drop]
  omega
end
end L2
namespace L2
open PySem PySem.Spec PyProof.Rows
def ixN (n : Nat) (i : Int) : Option Nat := if 0 ≤ i then (if i < n then some i.toNat else none) else if -(n : Int) ≤ i then some (i + n).toNat else none
def atI {α : Type} (xs : List α) (i : Int) : Option α := (ixN xs.length i).bind fun j => xs[j]?
theorem ixN_seq {n : Nat} {i : Int} {j : Nat} (h : ixN n i = some j) : seqIndex? i n = some j ∧ j < n ∧ -(n : Int) ≤ i ∧ i < n := by
  unfold ixN at h
  by_cases h0 : 0 ≤ i
  · rw [if_pos h0] at h
    by_cases h1 : i < n
    · rw [if_pos h1] at h
      have e : i.toNat = j := Option.some.inj h
      exact ⟨by rw [seqIndex_of h0 h1, e], by omega, by omega, h1⟩
    · rw [if_neg h1] at h; cases h
  · rw [if_neg h0] at h
    by_cases h1 : -(n : Int) ≤ i
    · rw [if_pos h1] at h
      have e : (i + n).toNat = j := Option.some.inj h
      exact ⟨by rw [seqIndex_neg (by omega) h1, e], by omega, h1, by omega⟩
    · rw [if_neg h1] at h; cases h
theorem atI_get {α : Type} {xs : List α} {i : Int} {v : α} (h : atI xs i = some v) : ∃ j, seqIndex? i xs.length = some j ∧ xs[j]? = some v ∧ j < xs.length ∧ -(xs.length : Int) ≤ i ∧ i < xs.length := by
  unfold atI at h
  cases e : ixN xs.length i with
  | none => rw [e] at h; cases h
  | some j =>
    rw [e] at h
    obtain ⟨h1, h2, h3, h4⟩ := ixN_seq e
    exact ⟨j, h1, h, h2, h3, h4⟩
theorem atI_nat {α : Type} {xs : List α} {j : Nat} {v : α} (h : xs[j]? = some v) : atI xs (j : Int) = some v := by
  have hj : j < xs.length := (List.getElem?_eq_some_iff.mp h).1
  have e : ixN xs.length (j : Int) = some j := by
    unfold ixN
    rw [if_pos (by omega), if_pos (by omega)]; simp
  unfold atI; rw [e]; exact h
def PlainIx (b : Expr) : Prop := ∀ o i, subscripted b false o i = operate [o, i] (getItem o i)
def IxR (X : Cx) (r : R2) : Prop :=
  ∀ (value slice : Expr) (pins : List (Addr × Obj)) (s : Shared) (σ : St) (H : Hp) (x y : V) (v u : Value) (Q : VK), Inv X pins σ H s → RelV x v → RelV y u → r x y H Q →
    subscripted slice false v u = operate [v, u] (getItem v u) → wpAny (model X.prog X.w) X.A (subscriptTail value slice v u) (EP X pins σ Q) X.xe s
def MtR (X : Cx) (id : String) (r : V → List V → Hp → VK → Prop) : Prop :=
  ∀ (pins : List (Addr × Obj)) (s : Shared) (σ : St) (H : Hp) (x : V) (xs : List V) (v : Value) (us : List Value) (Q : VK), Inv X pins σ H s → RelV x v → Vals xs us → r x xs H Q →
    wpAny (model X.prog X.w) X.A (call (.builtin id) (v :: us)) (EP X pins σ Q) X.xe s
section
variable {X : Cx} {a b : Expr} {ta tb : TE} {pos : Pos}
theorem pe_ix {r : R2} (hr : IxR X r) (ha : PE X a ta) (hb : PE X b tb) (hs : PlainIx b) : PE X (.Subscript a b pos) (tOp r ta tb) := by
  intro pins s σ H Q I h
  exact Subscript_ (binT ha hb I h fun v u s2 x y H2 I2 rx ry q => hr a b pins s2 σ H2 x y v u Q I2 rx ry q (hs _ _))
def rIxL (K : PySem.W.Frag) : R2 := fun x y H Q => ∃ p xs i v, x = .ref p ∧ y = .int i ∧ SqL K H p xs ∧ atI xs i = some v ∧ Q v H
def rIxT (K : PySem.W.Frag) : R2 := fun x y H Q => ∃ p xs i v, x = .ref p ∧ y = .int i ∧ SqT K H p xs ∧ atI xs i = some v ∧ Q v H
theorem ix_list : IxR X (rIxL X.K) := by
  intro value slice pins s σ H x y v u Q I rx ry h hs
  obtain ⟨p, xs, i, z, rfl, rfl, hq, he, q⟩ := h
  cases rx
  obtain ⟨t, rfl⟩ := ry
  obtain ⟨its, r, pl, hz⟩ := I.list hq
  obtain ⟨j, h1, h2, h3, h4, h5⟩ := atI_get he
  obtain ⟨w, ew, rw'⟩ := r.get h2
  have hl := r.length
  have hn := line63
  have fin : EP X pins σ Q w s := ⟨z, H, I, rw', q⟩
  by_cases h0 : 0 ≤ i
  · have hj : i.toNat = j := by
      rw [seqIndex_of h0 h5] at h1
      exact Option.some.inj h1
    exact item_listR pl.isList h0 (by omega) (by rw [hj]; simpa using ew) fin hs
  · have hj : (i + (its.toArray.size : Int)).toNat = j := by
      rw [seqIndex_neg (by omega) h4] at h1
      rw [List.size_toArray, ← hl]
      exact Option.some.inj h1
    exact subscriptTail_builtinR (x := w) pl.isList.typeIs slot_list_getitem.lookup
      (wpAny_getItem_list_neg (Q := fun r s' => r = w ∧ EP X pins σ Q r s') pl.isList (by omega) (by rw [List.size_toArray] <;> omega) (by omega) (by rw [hj]; simpa using ew) ⟨rfl, fin⟩) hs
theorem ix_tup : IxR X (rIxT X.K) := by
  intro value slice pins s σ H x y v u Q I rx ry h hs
  obtain ⟨p, xs, i, z, rfl, rfl, hq, he, q⟩ := h
  cases rx
  obtain ⟨t, rfl⟩ := ry
  obtain ⟨its, r, pl, hz⟩ := I.tuple hq
  obtain ⟨j, h1, h2, h3, h4, h5⟩ := atI_get he
  obtain ⟨w, ew, rw'⟩ := r.get h2
  have hl := r.length
  have hn := line63
  have fin : EP X pins σ Q w s := ⟨z, H, I, rw', q⟩
  exact subscriptTail_builtinR (x := w) pl.typeIs slot_tuple_getitem.lookup
    (getItem_tuple (j := j) (Q := fun r s' => r = w ∧ EP X pins σ Q r s') pl (by omega) (by omega) (by rw [List.size_toArray, ← hl]; exact h1) (by simpa using ew) ⟨rfl, fin⟩) hs
theorem mapSeq_set (its : List Value) (n j : Nat) (u : Value) : Obj.mapSeq (·.setIfInBounds j u) { cls := .type "list", data := .seq its.toArray n } = { cls := .type "list", data := .seq (its.set j u).toArray n } := by
  simp [Obj.mapSeq]
theorem Inv.lst {pins : List (Addr × Obj)} {σ : St} {H : Hp} {s : Shared} {p : Addr} {xs : List V} (I : Inv X pins σ H s) (h : H p = some (.lst xs)) :
    ∃ (its : List Value) (n : Nat), Vals xs its ∧ s.heap.get? p = some { cls := .type "list", data := .seq its.toArray n } ∧ xs.length ≤ sizeLine := by
  obtain ⟨z, its, n, r, e⟩ := I.hok p _ h
  exact ⟨its, n, r, e, z⟩
theorem Inv.lstUpd {pins : List (Addr × Obj)} {σ : St} {H : Hp} {s : Shared} {p : Addr} {xs ys : List V} {its its' : List Value} {n n' : Nat} {f : Obj → Obj} (I : Inv X pins σ H s) (h : H p = some (.lst xs))
    (ho : s.heap.get? p = some { cls := .type "list", data := .seq its.toArray n }) (hf : f { cls := .type "list", data := .seq its.toArray n } = { cls := .type "list", data := .seq its'.toArray n' }) (r : Vals ys its') (hz : ys.length ≤ sizeLine) (t : Nat) :
    Inv X pins σ (upd H p (.lst ys)) { s with heap := s.heap.update p f, toks := t } := by
  have e : (s.heap.update p f).get? p = some { cls := .type "list", data := .seq its'.toArray n' } := by
    rw [Heap.get?_update_self f ho (by rw [hf] <;> rfl), hf]
  refine I.write (x := p) (e := p) (by rw [h]; trivial) (.inl rfl) (fun b u hb q => (Heap.get?_update_other _ _ (Ne.symm hb)).trans q) ⟨_, e⟩ ?_
  exact ⟨hz, its', n', r, e⟩
def rSetL : V → V → V → Hp → (Hp → Prop) → Prop := fun o i v H Q => ∃ p xs k j, o = .ref p ∧ i = .int k ∧ H p = some (.lst xs) ∧ ixN xs.length k = some j ∧ Q (upd H p (.lst (xs.set j v)))
theorem set_list : PSet X rSetL := by
  intro pins s σ H o i v ov iv u Q I ro ri rv h
  obtain ⟨p, xs, k, j, rfl, rfl, hp, hj, q⟩ := h
  cases ro
  obtain ⟨t, rfl⟩ := ri
  obtain ⟨its, n, r, ho, hz⟩ := I.lst hp
  obtain ⟨h1, h2, h3, h4⟩ := ixN_seq hj
  have hl := r.length
  have hn := line63
  have I' : Inv X pins σ (upd H p (.lst (xs.set j v))) { s with heap := s.heap.update p (Obj.mapSeq (·.setIfInBounds j u)) } :=
    I.lstUpd hp ho (mapSeq_set its n j u) (r.set rv j) (by rw [List.length_set]; exact hz) s.toks
  by_cases h0 : 0 ≤ k
  · have hk : k.toNat = j := by
      rw [seqIndex_of h0 h4] at h1
      exact Option.some.inj h1
    exact PySem.W.ki_setAt ho h0 (by omega) (by rw [List.size_toArray, ← hl]; exact h4) (by rw [hk]; exact ⟨_, I', q⟩)
  · have hk : (k + (its.toArray.size : Int)).toNat = j := by
      rw [seqIndex_neg (by omega) h3] at h1
      rw [List.size_toArray, ← hl]
      exact Option.some.inj h1
    exact PySem.W.ki_setBack ho (by omega) (by rw [List.size_toArray, ← hl]; exact h3) (by omega) (by rw [hk]; exact ⟨_, I', q⟩)
theorem slice_bounds (lo hi : Option Int) (n : Nat) : (sliceBounds lo hi none n).1 = ((HT.sIx n 0 lo : Nat) : Int) ∧ (sliceBounds lo hi none n).2.1 = ((HT.sIx n n hi : Nat) : Int) ∧ (sliceBounds lo hi none n).2.2 = 1 := by
  refine ⟨?_, ?_, rfl⟩
  · cases lo with
    | none => simp [sliceBounds, HT.sIx]
    | some i =>
      simp only [sliceBounds, HT.sIx, Option.getD_none, show (1 : Int) > 0 by decide, if_true]
      by_cases h : i < 0
      · simp only [h, if_true] <;> omega
      · simp only [h, if_false] <;> omega
  · cases hi with
    | none => simp [sliceBounds, HT.sIx]
    | some i =>
      simp only [sliceBounds, HT.sIx, Option.getD_none, show (1 : Int) > 0 by decide, if_true]
      by_cases h : i < 0
      · simp only [h, if_true] <;> omega
      · simp only [h, if_false] <;> omega
theorem slicePick_cut (its : List Value) (lo hi : Option Int) : slicePick its.toArray lo hi none = ((its.drop (HT.sIx its.length 0 lo)).take (HT.sIx its.length its.length hi - HT.sIx its.length 0 lo)).toArray := by
  obtain ⟨h1, h2, h3⟩ := slice_bounds lo hi its.toArray.size
  unfold slicePick
  rw [h1, h2, h3]
  simp only [sliceRange_one, pick_run, List.size_toArray] <;> rfl
def rSlL (K : PySem.W.Frag) : V → Option Int → Option Int → Hp → VK → Prop := fun x lo hi H Q => ∃ a xs, x = .ref a ∧ SqL K H a xs ∧ ∀ p, H p = none → Q (.ref p) (upd H p (.lst (cutV xs lo hi)))
theorem sl_list : SlR X (rSlL X.K) := by
  intro pins s σ H x v vl vu lo hi sl Q I rx hs pl pu h
  obtain ⟨a, xs, rfl, hx, q⟩ := h
  cases rx
  obtain ⟨its, r, ht, hz⟩ := I.list hx
  have hlen := r.length
  refine ⟨"list", _, slot_list_getitem.lookup, ht.isList.typeIs, ?_⟩
  refine wpAny_getItem_list_slice ht.isList hs pl pu .none (by simp) ?_ (by rw [List.size_toArray] <;> omega)
  rw [slicePick_cut, ← hlen]
  refine ⟨.ref s.heap.objs.size, _, I.laid (t' := s.toks) (o := .lst (cutV xs lo hi)) (fun b ob q => Heap.get?_push_of_some _ q) (Nat.le_refl _) ?_, rfl, q _ (I.hok.fresh (Nat.le_refl _))⟩
  exact ⟨Nat.le_trans (cutV_length xs lo hi) hz, _, 0, (r.drop (HT.sIx xs.length 0 lo)).take (HT.sIx xs.length xs.length hi - HT.sIx xs.length 0 lo), Heap.get?_push_size _ rfl⟩
def flatV : V → Bool
  | .non => true
  | .bl _ => true
  | .int _ => true
  | .str _ => true
  | _ => false
def eqV : V → V → Bool
  | .non, .non => true
  | .bl a, .bl b => a == b
  | .bl a, .int b => (if a then 1 else 0) == b
  | .int a, .bl b => a == (if b then 1 else 0)
  | .int a, .int b => a == b
  | .str a, .str b => a == b
  | _, _ => false
theorem eqAt_V {A : Around} {s : Shared} {y x : V} {u v : Value} (ry : RelV y u) (rx : RelV x v) (fy : flatV y = true) (fx : flatV x = true) : SeqAt.EqAt A s u v (eqV y x) := by
  cases y with
  | non =>
    cases ry
    cases x with
    | non => cases rx; exact SeqAt.EqAt.same _
    | bl b => cases rx; exact SeqAt.EqAt.none_bool b
    | int b => obtain ⟨t, rfl⟩ := rx; exact SeqAt.EqAt.none_int b t
    | str b => obtain ⟨t, rfl⟩ := rx; exact SeqAt.EqAt.none_str b t
    | _ => exact absurd (show false = true from fx) Bool.false_ne_true
  | bl a =>
    cases ry
    cases x with
    | non => cases rx; exact SeqAt.EqAt.bool_none a
    | bl b => cases rx; exact SeqAt.EqAt.bool_bool a b
    | int b => obtain ⟨t, rfl⟩ := rx; exact SeqAt.EqAt.bool_int a b t
    | str b => obtain ⟨t, rfl⟩ := rx; exact SeqAt.EqAt.bool_str a b t
    | _ => exact absurd (show false = true from fx) Bool.false_ne_true
  | int a =>
    obtain ⟨t', rfl⟩ := ry
    cases x with
    | non => cases rx; exact SeqAt.EqAt.int_none a t'
    | bl b => cases rx; exact SeqAt.EqAt.int_bool a t' b
    | int b => obtain ⟨t, rfl⟩ := rx; exact SeqAt.EqAt.int_int a t' b t
    | str b => obtain ⟨t, rfl⟩ := rx; exact SeqAt.EqAt.int_str a t' b t
    | _ => exact absurd (show false = true from fx) Bool.false_ne_true
  | str a =>
    obtain ⟨t', rfl⟩ := ry
    cases x with
    | non => cases rx; exact SeqAt.EqAt.str_none a t'
    | bl b => cases rx; exact SeqAt.EqAt.str_bool a t' b
    | int b => obtain ⟨t, rfl⟩ := rx; exact SeqAt.EqAt.str_int a t' b t
    | str b => obtain ⟨t, rfl⟩ := rx; exact SeqAt.EqAt.str_str a t' b t
    | _ => exact absurd (show false = true from fx) Bool.false_ne_true
  | _ => exact absurd (show false = true from fy) Bool.false_ne_true
def eqU (x : V) (u : Value) : Bool := match u with
  | .none => eqV .non x
  | .bool b => eqV (.bl b) x
  | .int i _ => eqV (.int i) x
  | .str z _ => eqV (.str z) x
  | _ => false
theorem eqU_of {x y : V} {u : Value} (r : RelV y u) (f : flatV y = true) : eqU x u = eqV y x := by
  cases y with
  | non => cases r; rfl
  | bl b => cases r; rfl
  | int i => obtain ⟨t, rfl⟩ := r; rfl
  | str z => obtain ⟨t, rfl⟩ := r; rfl
  | _ => exact absurd (show false = true from f) Bool.false_ne_true
theorem any_eqU {x : V} : ∀ {xs : List V} {us : List Value}, Vals xs us → xs.all flatV = true → us.any (eqU x) = xs.any fun y => eqV y x
  | _, _, .nil, _ => rfl
  | y :: xs, u :: us, .cons r t, f => by
    rw [List.all_cons, Bool.and_eq_true] at f
    rw [List.any_cons, List.any_cons, eqU_of r f.1, any_eqU t f.2]
theorem mem_eqAt {A : Around} {s : Shared} {x : V} {v : Value} (rx : RelV x v) (fx : flatV x = true) : ∀ {xs : List V} {us : List Value}, Vals xs us → xs.all flatV = true → ∀ u ∈ us, SeqAt.EqAt A s u v (eqU x u)
  | _, _, .nil, _ => fun u hu => by cases hu
  | y :: xs, u :: us, .cons r t, f => fun u' hu => by
    rw [List.all_cons, Bool.and_eq_true] at f
    rcases List.mem_cons.mp hu with rfl | hu
    · rw [eqU_of r f.1]; exact eqAt_V r rx f.1 fx
    · exact mem_eqAt rx fx t f.2 u' hu
def inV (x : V) (xs : List V) : Bool := xs.any fun y => eqV y x
def rIn (K : PySem.W.Frag) (neg : Bool) : R2 := fun x y H Q => ∃ p xs, y = .ref p ∧ (SqL K H p xs ∨ SqT K H p xs) ∧ flatV x = true ∧ xs.all flatV = true ∧ Q (.bl (if neg then !inV x xs else inV x xs)) H
theorem op_in_seq : OpR X (compareOp .In) (rIn X.K false) := by
  intro pins s σ H x y v u Q I rx ry h
  obtain ⟨p, xs, rfl, hq, fx, fs, q⟩ := h
  cases ry
  rcases hq with hq | hq
  · obtain ⟨its, r, pl, hz⟩ := I.list hq
    refine SeqAt.in_listAt (eqU x) pl.isList (fun w hw => mem_eqAt rx fx r fs w (by simpa using hw)) ⟨.bl _, H, I, rfl, ?_⟩
    rw [show its.toArray.any (eqU x) = its.any (eqU x) by simp, any_eqU r fs]
    exact q
  · obtain ⟨its, r, pl, hz⟩ := I.tuple hq
    refine SeqAt.in_tupleAt (eqU x) pl (fun w hw => mem_eqAt rx fx r fs w (by simpa using hw)) ⟨.bl _, H, I, rfl, ?_⟩
    rw [show its.toArray.any (eqU x) = its.any (eqU x) by simp, any_eqU r fs]
    exact q
theorem op_notIn_seq : OpR X (compareOp .NotIn) (rIn X.K true) := by
  intro pins s σ H x y v u Q I rx ry h
  obtain ⟨p, xs, rfl, hq, fx, fs, q⟩ := h
  cases ry
  rcases hq with hq | hq
  · obtain ⟨its, r, pl, hz⟩ := I.list hq
    refine SeqAt.notIn_listAt (eqU x) pl.isList (fun w hw => mem_eqAt rx fx r fs w (by simpa using hw)) ⟨.bl _, H, I, rfl, ?_⟩
    rw [show its.toArray.any (eqU x) = its.any (eqU x) by simp, any_eqU r fs]
    exact q
  · obtain ⟨its, r, pl, hz⟩ := I.tuple hq
    refine SeqAt.notIn_tupleAt (eqU x) pl (fun w hw => mem_eqAt rx fx r fs w (by simpa using hw)) ⟨.bl _, H, I, rfl, ?_⟩
    rw [show its.toArray.any (eqU x) = its.any (eqU x) by simp, any_eqU r fs]
    exact q
theorem call_len_seq : CallR X (.builtin "len") (fun xs H Q => ∃ p ys, xs = [.ref p] ∧ (SqL X.K H p ys ∨ SqT X.K H p ys) ∧ Q (.int ys.length) H) := by
  intro pins s σ H xs us Q I r h
  obtain ⟨p, ys, rfl, hq, q⟩ := h
  obtain ⟨u, rfl, rx⟩ := vals1 r
  cases rx
  have hn := line63
  rcases hq with hq | hq
  · obtain ⟨its, r', pl, hz⟩ := I.list hq
    have hlen := r'.length
    exact Calls.call_len_list pl.isList (by simp only [List.size_toArray] <;> omega) ⟨.int ys.length, H, I.tok _, ⟨s.toks + 1, by rw [List.size_toArray, hlen]⟩, q⟩
  · obtain ⟨its, r', pl, hz⟩ := I.tuple hq
    have hlen := r'.length
    exact len_tuple pl (by simp only [List.size_toArray] <;> omega) ⟨.int ys.length, H, I.tok _, ⟨s.toks + 1, by rw [List.size_toArray, hlen]⟩, q⟩
theorem call_len_str : CallR X (.builtin "len") (fun xs H Q => ∃ z, xs = [.str z] ∧ z.length ≤ sizeLine ∧ Q (.int z.length) H) := by
  intro pins s σ H xs us Q I r h
  obtain ⟨z, rfl, hz, q⟩ := h
  obtain ⟨u, rfl, t, rfl⟩ := vals1 r
  have hn := line63
  exact len_str (by omega) ⟨.int z.length, H, I.tok _, ⟨_, rfl⟩, q⟩
def tyV (K : PySem.W.Frag) (T : String) (x : V) (H : Hp) : Prop := match x with
  | .str _ => T = "str"
  | .int _ => T = "int"
  | .ref p => (T = "list" ∧ ∃ xs, SqL K H p xs) ∨ (T = "tuple" ∧ ∃ o, K.lookup p = some o ∧ o.cls = .type "tuple" ∧ o.dict = none) ∨
      (T = "dict" ∧ ((∃ kvs, H p = some (.dK kvs)) ∨ ∃ kvs, H p = some (.dT kvs))) ∨ (T = "set" ∧ ∃ S n, H p = some (.set S n))
  | _ => False
theorem tyV_is {pins : List (Addr × Obj)} {σ : St} {H : Hp} {s : Shared} {T : String} {x : V} {v : Value} (I : Inv X pins σ H s) (r : RelV x v) (ty : tyV X.K T x H) :
    s.TypeIs v T ∧ ∀ a, v = .ref a → ∃ ob, s.heap.get? a = some ob ∧ ob.dict = none := by
  cases x with
  | str z =>
    obtain ⟨t, rfl⟩ := r
    cases (show T = "str" from ty)
    exact ⟨typeIs_str s z t, fun _ e => nomatch e⟩
  | int i =>
    obtain ⟨t, rfl⟩ := r
    cases (show T = "int" from ty)
    exact ⟨typeIs_int s i t, fun _ e => nomatch e⟩
  | ref p =>
    cases r
    rcases ty with ⟨rfl, xs, hq⟩ | ⟨rfl, o, hk, hc, hd⟩ | ⟨rfl, hk⟩ | ⟨rfl, S, n, hk⟩
    · obtain ⟨its, _, pl, _⟩ := I.list hq
      refine ⟨pl.isList.typeIs, fun a e => ?_⟩
      cases e
      obtain ⟨o, n, e, c, hd, _⟩ := pl
      exact ⟨o, e, hd⟩
    · refine ⟨⟨o, I.kIn p o hk, hc⟩, fun a e => ?_⟩
      cases e
      exact ⟨o, I.kIn _ o hk, hd⟩
    · have z : ∃ o, s.heap.get? p = some o ∧ o.ExactDict := by
        rcases hk with ⟨kvs, hk⟩ | ⟨kvs, hk⟩
        · obtain ⟨_, _, _, _, o, _, _, e, ex, _⟩ := I.hok p _ hk
          exact ⟨o, e, ex⟩
        · obtain ⟨_, _, _, _, o, _, _, e, ex, _⟩ := I.hok p _ hk
          exact ⟨o, e, ex⟩
      obtain ⟨o, e, ex⟩ := z
      refine ⟨⟨o, e, ex.1⟩, fun a e2 => ?_⟩
      cases e2
      exact ⟨o, e, ex.2.1⟩
    · obtain ⟨o, _, _, _, e, ex, _⟩ := I.hok p _ hk
      refine ⟨⟨o, e, ex.1⟩, fun a e2 => ?_⟩
      cases e2
      exact ⟨o, e, ex.2.1⟩
  | _ => exact False.elim ty
def tBM (K : PySem.W.Frag) (T : String) (r : V → List V → Hp → VK → Prop) (to : TE) (t : TA) : TE := fun σ H Q => to σ H fun x H1 => tyV K T x H1 ∧ t σ H1 fun xs H2 => r x xs H2 Q
variable {o e : Expr} {es : List Expr} {to : TE} {t : TA} {name : Str} {apos cpos : Pos} {T id : String} {r : V → List V → Hp → VK → Prop}
theorem pe_bm (pa : PlainAttrs T) (slot : Slot T name id) (hty : typeOf (.builtin id) = pure (.type "method_descriptor")) (hm : MtR X id r) (ho : PE X o to) (ha : PA X (e :: es) t)
    (hbase : attributeBase o name X.env (eval o X.env) = eval o X.env := by rfl)
    (hfew : ((backTo cpos (starEach (e :: es) X.env)).all (fun x => !x.1) && (backToKw cpos (keywordEach [] X.env)).all (fun x => x.1.isSome)
      && decide ((e :: es).length + ([] : List Keyword).length + (if ([] : List Keyword).isEmpty then 0 else 1) < 30)) = true := by rfl)
    (hline : (apos.endLine == cpos.line) = true := by rfl) (hs : starEach (e :: es) X.env = (false, eval e X.env) :: starEach es X.env := by rfl) (hplain : (backTo cpos (starEach es X.env)).any (·.1) = false := by rfl) :
    PE X (.Call (.Attribute o name apos) (e :: es) [] cpos) (tBM X.K T r to t) := by
  intro pins s σ H Q I h
  refine wpAny_Call_method_late hbase hfew hline rfl (thn (ho pins s σ H _ I h) fun v s1 ⟨x, H1, I1, r1, ty, q1⟩ => ?_)
  obtain ⟨h1, h2⟩ := tyV_is I1 r1 ty
  refine ⟨T, id, pa, slot, hty, h1, h2, ?_⟩
  have hA := ha cpos pins s1 σ H1 _ I1 q1
  rw [hs] at hA ⊢
  refine Calls.callWith_builtin (by show (false || (backTo cpos (starEach es X.env)).any (·.1)) = false; rw [hplain] <;> rfl) (Calls.evalArgs_plain ?_)
  exact thn hA fun us s2 ⟨vs, H2, I2, r2, q2⟩ => hm pins s2 σ H2 x vs v us Q I2 r1 r2 q2
end
end L2
namespace L2
open PySem PySem.Spec PyProof.Rows
def MtM (X : Cx) (id : String) (r : V → List V → Hp → VK → Prop) : Prop :=
  ∀ (pins : List (Addr × Obj)) (s : Shared) (σ : St) (H : Hp) (x : V) (xs : List V) (v : Value) (us : List Value) (Q : VK), Inv X pins σ H s → RelV x v → Vals xs us → r x xs H Q →
    wpAny (model X.prog X.w) X.A (call (.builtin id) (v :: us)) (EP X pins σ Q) X.xe s
theorem Vals.one : ∀ {x : V} {us : List Value}, Vals [x] us → ∃ u, us = [u] ∧ RelV x u
  | _, _, .cons r .nil => ⟨_, rfl, r⟩
theorem Vals.rep {xs : List V} {us : List Value} (h : Vals xs us) : ∀ k : Nat, Vals (List.replicate k xs).flatten (List.replicate k us).flatten
  | 0 => .nil
  | k + 1 => by
    rw [List.replicate_succ, List.replicate_succ, List.flatten_cons, List.flatten_cons]
    exact Vals.append h (Vals.rep h k)
theorem foldl_rep (its : List Value) : ∀ (k : Nat) (acc : List Value),
    List.foldl (fun x1 x2 => x1 ++ x2) acc.toArray (List.replicate k its.toArray) = (acc ++ (List.replicate k its).flatten).toArray
  | 0, acc => by simp
  | k + 1, acc => by
    have e : acc.toArray ++ its.toArray = (acc ++ its).toArray := by simp
    have e2 : (acc ++ its) ++ (List.replicate k its).flatten = acc ++ (List.replicate (k + 1) its).flatten := by
      rw [List.replicate_succ, List.flatten_cons, List.append_assoc]
    rw [← e2, ← foldl_rep its k (acc ++ its), ← e, List.replicate_succ, List.foldl_cons]
section
variable {X : Cx} {pins : List (Addr × Obj)} {σ : St} {H : Hp} {s : Shared} {l b : Addr} {xs ys zs : List V}
theorem Inv.lset {its its' : List Value} {n : Nat} {f : Array Value → Array Value} {t' : Nat} (I : Inv X pins σ H s) (hH : H l = some (.lst xs))
    (e : s.heap.get? l = some { cls := .type "list", data := .seq its.toArray n }) (hf : f its.toArray = its'.toArray) (hv : Vals ys its') (hz : ys.length ≤ sizeLine) :
    Inv X pins σ (upd H l (.lst ys)) { s with heap := s.heap.update l (Obj.mapSeq f), toks := t' } := by
  have q := PySem.IsL.update e f
  rw [hf] at q
  refine I.write (x := l) (e := l) (by rw [hH]; exact trivial) (.inl rfl) (fun b' u hb hu => (Heap.get?_update_other s.heap (Obj.mapSeq f) (Ne.symm hb)).trans hu) ⟨_, q⟩ ?_
  exact ⟨hz, its', _, hv, q⟩
theorem Inv.lnew {its : List Value} {t' : Nat} (I : Inv X pins σ H s) (hv : Vals ys its) (hz : ys.length ≤ sizeLine) :
    Inv X pins σ (upd H s.heap.objs.size (.lst ys)) { s with heap := s.heap.push { cls := .type "list", data := .seq its.toArray }, toks := t' } :=
  I.laid (fun _ _ q => Heap.get?_push_of_some _ q) (Nat.le_refl _) ⟨hz, its, 0, hv, Heap.get?_push_size _ rfl⟩
theorem Inv.fresh (I : Inv X pins σ H s) : H s.heap.objs.size = none := I.hok.fresh (Nat.le_refl _)
theorem Inv.lstM (I : Inv X pins σ H s) (hH : H l = some (.lst xs)) : xs.length ≤ sizeLine ∧ ∃ (its : List Value) (n : Nat), Vals xs its ∧ xs.length = its.length ∧ s.heap.get? l = some { cls := .type "list", data := .seq its.toArray n } := by
  obtain ⟨z, its, n, r, e⟩ := I.hok l _ hH
  exact ⟨z, its, n, r, r.length, e⟩
theorem notLongL {n : Nat} (h : n ≤ sizeLine) : Builtin.List.listTooLong n = false := by
  unfold Builtin.List.listTooLong
  exact decide_eq_false (by omega)
end
section
variable {X : Cx}
def rAppend : V → List V → Hp → VK → Prop := fun x vs H Q => ∃ l xs y, x = .ref l ∧ vs = [y] ∧ H l = some (.lst xs) ∧ xs.length < sizeLine ∧ Q .non (upd H l (.lst (xs ++ [y])))
theorem mt_append : MtM X "list.append" rAppend := by
  intro pins s σ H x vs v us Q I rx rv h
  obtain ⟨l, xs, y, rfl, rfl, hH, hz, q⟩ := h
  cases rx
  obtain ⟨u, rfl, ru⟩ := rv.one
  obtain ⟨z, its, n, r, hl, e⟩ := I.lstM hH
  refine call_meets F.slot_list_append ⟨_, e, rfl⟩ F.entry_list_append (F.args_list_append_2 _ _) (PySem.list_append l its.toArray n u (by rw [List.size_toArray]; omega)) ⟨e, ?_⟩
  refine ⟨.non, _, I.lset (its' := its ++ [u]) hH e (by simp) (r.append (.cons ru .nil)) ?_, rfl, q⟩
  rw [List.length_append, List.length_singleton]
  omega
def rExtend : V → List V → Hp → VK → Prop := fun x vs H Q => ∃ l b xs zs, x = .ref l ∧ vs = [.ref b] ∧ H l = some (.lst xs) ∧ H b = some (.lst zs) ∧ xs.length + zs.length ≤ sizeLine ∧ Q .non (upd H l (.lst (xs ++ zs)))
theorem mt_extend : MtM X "list.extend" rExtend := by
  intro pins s σ H x vs v us Q I rx rv h
  obtain ⟨l, b, xs, zs, rfl, rfl, hH, hB, hz, q⟩ := h
  cases rx
  obtain ⟨u, rfl, ru⟩ := rv.one
  cases ru
  obtain ⟨z, its, n, r, hl, e⟩ := I.lstM hH
  obtain ⟨z2, its2, n2, r2, hl2, e2⟩ := I.lstM hB
  have hsz : its.toArray.size + its2.toArray.size ≤ sizeLine := by rw [List.size_toArray, List.size_toArray]; omega
  have hlong : ¬ (!its.toArray.isEmpty && Builtin.List.listTooLong (its.toArray.size + its2.toArray.size)) = true := by
    rw [notLongL hsz, Bool.and_false]
    exact Bool.false_ne_true
  refine call_meets F.slot_list_extend ⟨_, e, rfl⟩ F.entry_list_extend (F.args_list_extend_2 _ _)
    (AutoSeq1.list_extend_list_list_0 l its.toArray n b its2.toArray n2 hlong (by rw [List.size_toArray]; omega) (by omega)) ⟨e, e2, ?_⟩
  refine ⟨.non, _, I.lset (its' := its ++ its2) hH e (by simp) (r.append r2) ?_, rfl, q⟩
  rw [List.length_append]
  omega
def rCat : R2 := fun x y H Q => ∃ l b xs zs, x = .ref l ∧ y = .ref b ∧ H l = some (.lst xs) ∧ H b = some (.lst zs) ∧ xs.length + zs.length ≤ sizeLine ∧ ∀ p, H p = none → Q (.ref p) (upd H p (.lst (xs ++ zs)))
theorem op_cat : OpR X (binaryOp .Add) rCat := by
  intro pins s σ H x y v u Q I rx ry h
  obtain ⟨l, b, xs, zs, rfl, rfl, hH, hB, hz, q⟩ := h
  cases rx
  cases ry
  obtain ⟨z, its, n, r, hl, e⟩ := I.lstM hH
  obtain ⟨z2, its2, n2, r2, hl2, e2⟩ := I.lstM hB
  refine PySem.P.add_list e e2 ?_ (by rw [List.size_toArray, List.size_toArray]; omega)
  have ea : its.toArray ++ its2.toArray = (its ++ its2).toArray := by simp
  rw [ea]
  exact ⟨.ref _, _, I.lnew (t' := s.toks) (r.append r2) (by rw [List.length_append]; omega), rfl, q _ I.fresh⟩
def rRep : R2 := fun x y H Q => ∃ l k xs, x = .ref l ∧ y = .int k ∧ H l = some (.lst xs) ∧ -(2 ^ 63) ≤ k ∧ k < 2 ^ 63 ∧ xs.length * k.toNat ≤ sizeLine ∧
  ∀ p, H p = none → Q (.ref p) (upd H p (.lst (List.replicate k.toNat xs).flatten))
theorem len_rep {α : Type} (xs : List α) (k : Nat) : (List.replicate k xs).flatten.length = k * xs.length := by
  induction k with
  | zero => simp
  | succ k ih => rw [List.replicate_succ, List.flatten_cons, List.length_append, ih, Nat.succ_mul, Nat.add_comm]
theorem op_rep : OpR X (binaryOp .Mult) rRep := by
  intro pins s σ H x y v u Q I rx ry h
  obtain ⟨l, k, xs, rfl, rfl, hH, h1, h2, hz, q⟩ := h
  cases rx
  obtain ⟨t, rfl⟩ := ry
  obtain ⟨z, its, n, r, hl, e⟩ := I.lstM hH
  have hlen : its.toArray.size * k.toNat ≤ sizeLine := by rw [List.size_toArray, ← hl]; exact hz
  have hcap : ¬ its.toArray.size * k.toNat > (2 ^ 63 - 1) / 8 := by
    have : (sizeLine : Nat) ≤ (2 ^ 63 - 1) / 8 := by decide
    omega
  have hfit : ¬ (!Builtin.List.listFitsIndex k) = true := by
    rw [fitsIndex_both h1 h2]
    exact Bool.false_ne_true
  have hlong : ¬ Builtin.List.listTooLong (its.toArray.size * k.toNat) = true := by
    rw [notLongL hlen]
    exact Bool.false_ne_true
  have hnew : List.foldl (fun x1 x2 => x1 ++ x2) #[] (List.replicate (if its.toArray.isEmpty = true then 0 else k.toNat) its.toArray) = (List.replicate k.toNat its).flatten.toArray := by
    have f0 : ∀ m : Nat, List.foldl (fun x1 x2 => x1 ++ x2) #[] (List.replicate m its.toArray) = (List.replicate m its).flatten.toArray := fun m => by
      have := foldl_rep its m []
      rw [List.nil_append] at this
      exact this
    rw [f0]
    cases its with
    | nil => simp
    | cons a r' => rw [if_neg (by simp)]
  refine wpAny_binaryOp_repeat_ref (T := "list") (U := "int") (by decide) ⟨_, e, rfl⟩ (fun s' => typeIs_int s' k t) noFill_list_mul F.fills_int_mul F.slot_int_rmul repeat_list F.slot_int_index.lookup
    (call_meets F.slot_int_rmul (typeIs_int s k t) F.entry_int_rmul (F.args_int_rmul_2 _ _) (int___rmul___int_list k t l its.toArray n)
      ⟨e, rfl, ⟨_, e, rfl⟩, call_meets F.slot_list_mul ⟨_, e, rfl⟩ F.entry_list_mul (F.args_list_mul_2 _ _) (AutoListH.list___mul___list_int_3 l its.toArray n k t hfit hcap hlong) ⟨e, ?_⟩⟩)
  rw [hnew]
  exact ⟨.ref _, _, I.lnew (t' := s.toks) (r.rep k.toNat) (by rw [len_rep, Nat.mul_comm]; exact hz), rfl, q _ I.fresh⟩
end
section
variable {prog : Program} {w : World} {A : Around} {E : Value → Shared → Prop} {s : Shared}
end
section
variable {X : Cx}
end
end L2
namespace L2
open PySem PySem.Spec PyProof.Rows
theorem Vals.ints : ∀ {ns : List Int} {us : List Value}, Vals (ns.map V.int) us → IntsAre us ns
  | [], us, h => by
    rw [List.map_nil] at h
    cases h
    exact IntsAre.nil
  | n :: ns, us, h => by
    rw [List.map_cons] at h
    cases h with
    | cons r t =>
      obtain ⟨k, rfl⟩ := r
      exact IntsAre.cons n k (Vals.ints t)
theorem Vals.bls : ∀ {bs : List Bool} {us : List Value}, Vals (bs.map V.bl) us → us = bs.map Value.bool
  | [], us, h => by
    rw [List.map_nil] at h
    cases h
    rfl
  | b :: bs, us, h => by
    rw [List.map_cons] at h
    cases h with
    | cons r t =>
      cases r
      rw [Vals.bls t, List.map_cons]
theorem Vals.ref1 {a : Addr} {us : List Value} (r : Vals [V.ref a] us) : us = [Value.ref a] := by
  cases r with
  | cons r t =>
    cases t
    cases r
    rfl
section
variable {prog : Program} {w : World} {A : Around} {E : Value → Shared → Prop} {s : Shared} {l : Addr} {its : List Value} {ns : List Int} {Q : Value → Shared → Prop}
theorem sum_raw (hh : A.handled = none) (hl : s.heap.IsList l its.toArray) (hi : IntsAre its ns)
    (h : ∀ h' tk t', (∀ b o, s.heap.get? b = some o → h'.get? b = some o) → Q (.int ns.sum t') { s with heap := h', toks := tk }) : wpAny (model prog w) A (call (.builtin "sum") [.ref l]) Q E s := by
  obtain ⟨xs, e⟩ := hi.allInts.items
  have hn : numsOf (intItems xs).toList = ns := by rw [← e]; exact hi.numsOf
  rw [nums_intItems] at hn
  rw [e] at hl
  refine PySem.sum_intListG hh hl fun h' tk t' hk => ?_
  have := h h' tk t' hk
  rw [preSum_eq, List.take_of_length_le (by simp), hn]; exact this
theorem min_raw (hh : A.handled = none) (hl : s.heap.IsList l its.toArray) (hi : IntsAre its ns) (hne : 0 < ns.length)
    (h : ∀ h' tk M t', (∀ b o, s.heap.get? b = some o → h'.get? b = some o) → M ∈ ns → (∀ a, a ∈ ns → M ≤ a) → Q (.int M t') { s with heap := h', toks := tk }) : wpAny (model prog w) A (call (.builtin "min") [.ref l]) Q E s := by
  obtain ⟨xs, e⟩ := hi.allInts.items
  have hn : numsOf (intItems xs).toList = ns := by rw [← e]; exact hi.numsOf
  rw [nums_intItems] at hn
  subst hn
  rw [e] at hl
  have hsz : 0 < xs.size := by simpa using hne
  refine PySem.min_intList hh hl hsz fun v h' tk hv hk => ?_
  obtain ⟨t, rfl⟩ := intItems_at hv
  obtain ⟨h1, h2⟩ := argBest_lt (numAt xs) (xs.size - 1)
  refine h h' tk _ t hk ?_ fun a ha => ?_
  · rw [numAt_eq]; exact PySem.getD_mem (by rw [List.length_map, Array.length_toList]; omega)
  · obtain ⟨j, hj, rfl⟩ := mem_getD ha
    rw [List.length_map, Array.length_toList] at hj
    rw [← numAt_eq]; exact h2 j (by omega)
end
section
variable {X : Cx}
def rSum (K : PySem.W.Frag) : List V → Hp → VK → Prop := fun vs H Q => ∃ (a : Addr) (ns : List Int), vs = [V.ref a] ∧ SqL K H a (ns.map V.int) ∧ Q (.int ns.sum) H
def rMin (K : PySem.W.Frag) : List V → Hp → VK → Prop := fun vs H Q => ∃ (a : Addr) (ns : List Int), vs = [V.ref a] ∧ SqL K H a (ns.map V.int) ∧ 0 < ns.length ∧ ∀ m, m ∈ ns → (∀ y, y ∈ ns → m ≤ y) → Q (.int m) H
theorem cr_sum (hc : X.calm = true) : CallR X (.builtin "sum") (rSum X.K) := by
  intro pins s σ H vs us Q I r h
  obtain ⟨a, ns, rfl, hs, q⟩ := h
  obtain ⟨its, rv, hl, _⟩ := I.list hs
  rw [Vals.ref1 r]
  exact sum_raw (I.ok.hd hc) hl.isList rv.ints fun h' tk t' hk => ⟨.int _, H, I.kept hk, ⟨_, rfl⟩, q⟩
theorem cr_min (hc : X.calm = true) : CallR X (.builtin "min") (rMin X.K) := by
  intro pins s σ H vs us Q I r h
  obtain ⟨a, ns, rfl, hs, hne, q⟩ := h
  obtain ⟨its, rv, hl, _⟩ := I.list hs
  rw [Vals.ref1 r]
  exact min_raw (I.ok.hd hc) hl.isList rv.ints hne fun h' tk m t' hk h1 h2 => ⟨.int _, H, I.kept hk, ⟨_, rfl⟩, q m h1 h2⟩
end
section
variable {X : Cx}
end
section
variable {X : Cx}
end
theorem iter_any {prog : Program} {w : World} {A : Around} {E : Value → Shared → Prop} {s : Shared} {l : Addr} {items : Array Value} {Q : Value → Shared → Prop} (hl : s.heap.IsList l items)
    (h : ∀ s₂ : Shared, s₂ = { s with heap := s.heap.push { cls := .type "list_iterator", data := .fields #[.ref l, .int 0 0] } } →
      (s₂.heap.IsListIter s.heap.objs.size l 0 ∧ s₂.heap.IsList l items) → l ≠ s.heap.objs.size → Q (.ref s.heap.objs.size) s₂) : wpAny (model prog w) A (pyIter (.ref l)) Q E s := by
  have hlt : l < s.heap.objs.size := by obtain ⟨_, e, _⟩ := hl; exact Heap.lt_size e
  exact wpAny_pyIter_list hl (h _ rfl ⟨⟨_, Heap.get?_push_size _ rfl, rfl, rfl⟩, hl.push _⟩ (Nat.ne_of_lt hlt))
theorem truth_bools {prog : Program} {w : World} {A : Around} {bs : List Bool} {its : List Value} (e : its = bs.map Value.bool) :
    TruthOf prog w A (fun i v => its.toArray[i]? = some v) (fun i => bs.getD i false) := fun i v s Q E hv hq => by
  have hv' : its[i]? = some v := by simpa using hv
  rw [e, List.getElem?_map] at hv'
  obtain ⟨b, hb, rfl⟩ := Option.map_eq_some_iff.mp hv'
  have hg : bs.getD i false = b := by rw [List.getD_eq_getElem?_getD, hb] <;> rfl
  have hq' : Q (bs.getD i false) s := hq
  rw [hg] at hq'
  exact wpAny_truthy_bool hq'
theorem any_range : ∀ bs : List Bool, (List.range bs.length).any (fun i => bs.getD i false) = bs.any id
  | [] => rfl
  | b :: bs => by
    rw [List.length_cons, List.range_succ_eq_map, List.any_cons, List.any_map, List.any_cons, ← any_range bs]
    all_goals rfl
section
variable {X : Cx}
def rAny (K : PySem.W.Frag) : List V → Hp → VK → Prop := fun vs H Q => ∃ (a : Addr) (bs : List Bool), vs = [V.ref a] ∧ SqL K H a (bs.map V.bl) ∧ Q (.bl (bs.any id)) H
theorem cr_any (hc : X.calm = true) : CallR X (.builtin "any") (rAny X.K) := by
  intro pins s σ H vs us Q I r h
  obtain ⟨a, bs, rfl, hs, q⟩ := h
  obtain ⟨its, rv, hl, _⟩ := I.list hs
  rw [Vals.ref1 r]
  have hb := rv.bls
  refine call_any_walk (iter_any hl.isList fun s₂ e2 st hne => ?_)
  subst e2
  refine ⟨_, _, _, _, _, _, _, rfl, Walks.list (A := X.A.in1) (I.ok.hd hc) _ a hne its.toArray, st, truth_bools hb, fun h' tk hk => ?_⟩
  refine ⟨.bl _, H, I.kept fun b o eo => hk b o (fun hmem => ?_) (Heap.get?_push_of_some _ eo), ?_, q⟩
  · rcases List.mem_cons.mp hmem with e1 | hmem
    · exact absurd (e1 ▸ Heap.lt_size eo) (Nat.lt_irrefl _)
    · cases hmem
  · show Value.bool _ = Value.bool _
    rw [← any_range, hb, List.size_toArray, List.length_map]
end
mutual
inductive Dp (K : PySem.W.Frag) (H : Hp) : V → PyData → Prop
  | non : Dp K H .non .none
  | bl (b : Bool) : Dp K H (.bl b) (.bool b)
  | int (i : Int) : Dp K H (.int i) (.int i)
  | str (x : Str) : Dp K H (.str x) (.str x)
  | lst {a : Addr} {xs : List V} {ds : List PyData} : SqL K H a xs → DpAll K H xs ds → Dp K H (.ref a) (.list ds)
  | tup {a : Addr} {xs : List V} {ds : List PyData} : SqT K H a xs → DpAll K H xs ds → Dp K H (.ref a) (.tuple ds)
inductive DpAll (K : PySem.W.Frag) (H : Hp) : List V → List PyData → Prop
  | nil : DpAll K H [] []
  | cons {v : V} {vs : List V} {d : PyData} {ds : List PyData} : Dp K H v d → DpAll K H vs ds → DpAll K H (v :: vs) (d :: ds)
end
section
variable {X : Cx} {pins : List (Addr × Obj)} {σ : St} {H : Hp} {s : Shared}
mutual
theorem Dp.reads (I : Inv X pins σ H s) : ∀ (d : PyData) (v : V) (u : Value), Dp X.K H v d → RelV v u → ∃ as, Reads s.heap u d as
  | .none, _, _, h, r => by
    cases h
    cases r
    exact ⟨_, Reads.none⟩
  | .bool b, _, _, h, r => by
    cases h
    cases r
    exact ⟨_, Reads.bool b⟩
  | .int i, _, _, h, r => by
    cases h
    obtain ⟨t, rfl⟩ := r
    exact ⟨_, Reads.int i t⟩
  | .str x, _, _, h, r => by
    cases h
    obtain ⟨t, rfl⟩ := r
    exact ⟨_, Reads.str x t⟩
  | .list ds, _, _, h, r => by
    cases h with
    | lst hs ha =>
      cases r
      obtain ⟨its, rv, ⟨o, n, ho, hc, _, hd⟩, _⟩ := I.list hs
      obtain ⟨as, hr⟩ := Dp.readsAll I ds _ its ha rv
      exact ⟨_, Reads.list ho hc hd hr⟩
  | .tuple ds, _, _, h, r => by
    cases h with
    | tup hs ha =>
      cases r
      obtain ⟨its, rv, ⟨o, ho, hc, n, hd⟩, _⟩ := I.tuple hs
      obtain ⟨as, hr⟩ := Dp.readsAll I ds _ its ha rv
      exact ⟨_, Reads.tuple ho hc hd hr⟩
  | .dict _, _, _, h, _ => by cases h
theorem Dp.readsAll (I : Inv X pins σ H s) : ∀ (ds : List PyData) (vs : List V) (us : List Value), DpAll X.K H vs ds → Vals vs us → ∃ as, ReadsAll s.heap us ds as
  | [], _, _, h, r => by
    cases h
    cases r
    exact ⟨_, ReadsAll.nil⟩
  | d :: ds, _, _, h, r => by
    cases h with
    | cons h1 h2 =>
      cases r with
      | cons r1 r2 =>
        obtain ⟨as, q1⟩ := Dp.reads I d _ _ h1 r1
        obtain ⟨bs, q2⟩ := Dp.readsAll I ds _ _ h2 r2
        exact ⟨_, ReadsAll.cons q1 q2⟩
end
end
section
variable {X : Cx}
def rEqD (K : PySem.W.Frag) : R2 := fun x y H Q => ∃ d e, Dp K H x d ∧ Dp K H y e ∧ SeqAt.shaped d = true ∧ SeqAt.shaped e = true ∧ Q (.bl (PyData.eqv d e)) H
theorem op_eqD (hu : X.A.units + 64 < cLine) : OpR X (compareOp .Eq) (rEqD X.K) := by
  intro pins s σ H x y v u Q I rx ry h
  obtain ⟨d, e, hd, he, sd, se, q⟩ := h
  obtain ⟨as, r1⟩ := Dp.reads I d x v hd rx
  obtain ⟨bs, r2⟩ := Dp.reads I e y u he ry
  exact SeqAt.compareEq_shaped r1 r2 sd se hu ⟨.bl _, H, I, rfl, q⟩
end
end L2
namespace L2
open PySem PySem.Spec PyProof.Rows
abbrev CellAt (h : Heap) (c : Addr) (v : Option Value) : Prop := h.IsCell c v
def relS (scope sc : Scope) : Scope :=
  { scope with names := scope.names.map fun (n, k) => if (k == .free && sc.kind == .function && sc.names.lookup n == some .cell) then (n, .cell) else (n, k) }
def cloFrom (cells : List (Str × Addr)) : List (Str × NameKind) → List (Str × Addr) → List (Str × Addr)
  | [], acc => acc
  | (n, k) :: r, acc => if k == .free then cloFrom cells r ((n, (cells.lookup n).getD 0) :: acc) else cloFrom cells r acc
theorem closure_loop (env : Env) (f : Str × NameKind → List (Str × Addr) → Sem (ForInStep (List (Str × Addr))))
    (hf : ∀ n k c, f (n, k) c = if k == .free then (do let a ← cellOf env n; pure (.yield ((n, a) :: c))) else pure (.yield c)) :
    ∀ (names : List (Str × NameKind)) (acc : List (Str × Addr)), (∀ y ∈ names, y.2 = .free → ∃ c, env.cells.lookup y.1 = some c) → forIn names acc f = pure (cloFrom env.cells names acc)
  | [], acc, _ => by rw [List.forIn_nil]; rfl
  | (n, k) :: r, acc, h => by
    rw [List.forIn_cons, hf]
    have ih := fun acc => closure_loop env f hf r acc fun y hy => h y (List.mem_cons_of_mem _ hy)
    unfold cloFrom
    by_cases hk : (k == NameKind.free) = true
    · rw [if_pos hk, if_pos hk]
      obtain ⟨c, hc⟩ := h (n, k) List.mem_cons_self (by simpa using hk)
      have e : cellOf env n = pure c := by unfold cellOf; rw [hc]
      rw [e]
      have e2 : (env.cells.lookup n).getD 0 = c := by rw [hc]; rfl
      rw [e2]
      exact ih _
    · rw [if_neg hk, if_neg hk]
      exact ih _
theorem closure_ok {scope : Scope} {env : Env} (h : ∀ y ∈ scope.names, y.2 = .free → ∃ c, env.cells.lookup y.1 = some c) : closureFor scope env = pure (cloFrom env.cells scope.names []) := by
  simp only [closureFor]
  rw [closure_loop env _ (fun n k c => rfl) scope.names [] h]
  rfl
theorem mem_lookup {α : Type} : ∀ {l : List (Str × α)} {n : Str} {c : α}, (n, c) ∈ l → ∃ c', l.lookup n = some c'
  | (k, v) :: r, n, c, h => by
    rw [List.lookup_cons]
    cases hb : n == k with
    | true => exact ⟨_, rfl⟩
    | false =>
      rcases List.mem_cons.mp h with e | h
      · cases e; simp at hb
      · exact mem_lookup h
theorem cloFrom_mem {cells : List (Str × Addr)} : ∀ {names : List (Str × NameKind)} {acc : List (Str × Addr)} {n : Str} {c : Addr}, (n, c) ∈ cloFrom cells names acc → (n, c) ∈ acc ∨ ((n, .free) ∈ names ∧ c = (cells.lookup n).getD 0)
  | [], _, _, _, h => .inl h
  | (m, k) :: r, acc, n, c, h => by
    unfold cloFrom at h
    split at h
    · rename_i hk
      have hk : k = .free := by simpa using hk
      rcases cloFrom_mem h with h | ⟨h1, h2⟩
      · rcases List.mem_cons.mp h with e | h
        · cases e; exact .inr ⟨hk ▸ List.mem_cons_self, rfl⟩
        · exact .inl h
      · exact .inr ⟨List.mem_cons_of_mem _ h1, h2⟩
    · rcases cloFrom_mem h with h | ⟨h1, h2⟩
      · exact .inl h
      · exact .inr ⟨List.mem_cons_of_mem _ h1, h2⟩
theorem cloFrom_acc {cells : List (Str × Addr)} : ∀ {names : List (Str × NameKind)} {acc : List (Str × Addr)} {p : Str × Addr}, p ∈ acc → p ∈ cloFrom cells names acc
  | [], _, _, h => h
  | (m, k) :: r, acc, p, h => by
    unfold cloFrom
    split
    · exact cloFrom_acc (List.mem_cons_of_mem _ h)
    · exact cloFrom_acc h
theorem cloFrom_has {cells : List (Str × Addr)} : ∀ {names : List (Str × NameKind)} {acc : List (Str × Addr)} {n : Str}, (n, .free) ∈ names → (n, (cells.lookup n).getD 0) ∈ cloFrom cells names acc
  | (m, k) :: r, acc, n, h => by
    unfold cloFrom
    rcases List.mem_cons.mp h with e | h
    · cases e
      exact cloFrom_acc List.mem_cons_self
    · split
      · exact cloFrom_has h
      · exact cloFrom_has h
theorem cells_mem : ∀ {names : List (Str × NameKind)} {h : Heap} {acc : List (Str × Addr)} {x : Str} {c : Addr}, (x, c) ∈ cellsFrom h.objs.size names acc →
    (x, c) ∈ acc ∨ ((x, .cell) ∈ names ∧ h.objs.size ≤ c ∧ CellAt (pushCells h names) c none)
  | [], _, _, _, _, h => .inl h
  | (n, k) :: r, h, acc, x, c, hm => by
    unfold cellsFrom at hm
    unfold pushCells
    split at hm
    · rename_i hk
      rw [if_pos hk]
      have hk : k = .cell := by simpa using hk
      rw [← Heap.size_push h { cls := .type "cell", data := .cell none }] at hm
      rcases cells_mem hm with hm | ⟨h1, h2, h3⟩
      · rcases List.mem_cons.mp hm with e | hm
        · cases e
          exact .inr ⟨hk ▸ List.mem_cons_self, Nat.le_refl _, _, pushCells_keeps r _ _ _ (Heap.get?_push_size _ rfl), rfl⟩
        · exact .inl hm
      · rw [Heap.size_push] at h2
        exact .inr ⟨List.mem_cons_of_mem _ h1, Nat.le_of_succ_le h2, h3⟩
    · rename_i hk
      rw [if_neg hk]
      rcases cells_mem hm with hm | ⟨h1, h2, h3⟩
      · exact .inl hm
      · exact .inr ⟨List.mem_cons_of_mem _ h1, h2, h3⟩
theorem cells_acc : ∀ {names : List (Str × NameKind)} {n : Nat} {acc : List (Str × Addr)} {p : Str × Addr}, p ∈ acc → p ∈ cellsFrom n names acc
  | [], _, _, _, h => h
  | (m, k) :: r, n, acc, p, h => by
    unfold cellsFrom
    split
    · exact cells_acc (List.mem_cons_of_mem _ h)
    · exact cells_acc h
theorem cells_has : ∀ {names : List (Str × NameKind)} {n : Nat} {acc : List (Str × Addr)} {x : Str}, (x, .cell) ∈ names → ∃ c, (x, c) ∈ cellsFrom n names acc
  | (m, k) :: r, n, acc, x, h => by
    unfold cellsFrom
    rcases List.mem_cons.mp h with e | h
    · cases e
      exact ⟨n, cells_acc List.mem_cons_self⟩
    · split
      · exact cells_has h
      · exact cells_has h
theorem cells_inj : ∀ {names : List (Str × NameKind)} {h : Heap} {acc : List (Str × Addr)} {x y : Str} {c : Addr}, (∀ p ∈ acc, p.2 < h.objs.size) → (∀ x y c, (x, c) ∈ acc → (y, c) ∈ acc → x = y) →
    (x, c) ∈ cellsFrom h.objs.size names acc → (y, c) ∈ cellsFrom h.objs.size names acc → x = y
  | [], _, _, _, _, _, _, hi, h1, h2 => hi _ _ _ h1 h2
  | (n, k) :: r, h, acc, x, y, c, hl, hi, h1, h2 => by
    unfold cellsFrom at h1 h2
    split at h1
    · rename_i hk
      rw [if_pos hk] at h2
      rw [← Heap.size_push h { cls := .type "cell", data := .cell none }] at h1 h2
      refine cells_inj (h := h.push _) (fun p hp => ?_) (fun x y c a b => ?_) h1 h2
      · rw [Heap.size_push]
        rcases List.mem_cons.mp hp with rfl | hp
        · exact Nat.lt_succ_self _
        · exact Nat.lt_succ_of_lt (hl p hp)
      · rcases List.mem_cons.mp a with e | a <;> rcases List.mem_cons.mp b with e' | b
        · cases e; cases e'; rfl
        · cases e; exact absurd (hl _ b) (Nat.lt_irrefl _)
        · cases e'; exact absurd (hl _ a) (Nat.lt_irrefl _)
        · exact hi _ _ _ a b
    · rename_i hk
      rw [if_neg hk] at h2
      exact cells_inj hl hi h1 h2
theorem newEnv_comp {M : Model} {A : Around} {E : Value → Shared → Prop} {s : Shared} {scope : Scope} {globals : Addr} {closure : List (Str × Addr)} {qual : Str} {func : Option Addr} {code : Value} {around : Env} {builtins : Addr} {Q : Env → Shared → Prop}
    (h : Q (newEnv scope s.heap.objs.size globals (cellsFrom (s.heap.objs.size + 1) scope.names closure) qual func code (some around) builtins)
      { s with heap := pushCells (s.heap.push { cls := .type "dict", data := .dict #[] }) scope.names }) :
    wpAny M A (newFunctionEnv scope globals closure [] qual func code (some around) builtins) Q E s := by
  simp only [newFunctionEnv, Option.isSome_some, if_true]
  refine wpAny_bind (wpAny_alloc ?_)
  refine wpAny_bind (wpAny_layCells _ (fun n k c => rfl) scope.names closure _ _ ?_)
  rw [show ({ s with heap := s.heap.push { cls := .type "dict", data := .dict #[] } } : Shared).heap.objs.size = s.heap.objs.size + 1 from Heap.size_push ..]
  rw [List.forIn_nil]
  exact wpAny_bind (wpAny_pure (wpAny_pure h))
theorem lookup_relS {sc : Scope} : ∀ {names : List (Str × NameKind)} {x : Str} {k : NameKind},
    (names.map fun (n, k) => if (k == NameKind.free && sc.kind == .function && sc.names.lookup n == some .cell) then (n, NameKind.cell) else (n, k)).lookup x = some k →
    ∃ k', names.lookup x = some k' ∧ (k = k' ∨ (k' = .free ∧ k = .cell))
  | [], _, _, h => by simp at h
  | (n, k₀) :: r, x, k, h => by
    have ih := @lookup_relS sc r x k
    have h' : List.lookup x ((if (k₀ == NameKind.free && sc.kind == .function && sc.names.lookup n == some .cell) = true then (n, NameKind.cell) else (n, k₀)) :: (r.map _)) = some k := h
    cases hx : x == n with
    | true =>
      simp only [List.lookup_cons, hx]
      by_cases hc : (k₀ == NameKind.free && sc.kind == .function && sc.names.lookup n == some .cell) = true
      · rw [if_pos hc] at h'
        simp only [List.lookup_cons, hx] at h'
        cases h'
        simp only [Bool.and_eq_true, beq_iff_eq] at hc
        exact ⟨k₀, rfl, .inr ⟨hc.1.1, rfl⟩⟩
      · rw [if_neg hc] at h'
        simp only [List.lookup_cons, hx] at h'
        cases h'
        exact ⟨_, rfl, .inl rfl⟩
    | false =>
      simp only [List.lookup_cons, hx]
      by_cases hc : (k₀ == NameKind.free && sc.kind == .function && sc.names.lookup n == some .cell) = true
      · rw [if_pos hc] at h'
        simp only [List.lookup_cons, hx] at h'
        exact ih h'
      · rw [if_neg hc] at h'
        simp only [List.lookup_cons, hx] at h'
        exact ih h'
structure BlkOk (N : List Str) (sc scope : Scope) (own : List (Str × Nat)) : Prop where
  kind : scope.kind = .function
  uniq : ∀ y ∈ scope.names, scope.names.lookup y.1 = some y.2
  ix : ∀ p ∈ own, N[p.2]? = some p.1
  free : ∀ y ∈ scope.names, y.2 = .free → sc.names.lookup y.1 = some .cell ∨ sc.names.lookup y.1 = some .free
  own : ∀ y ∈ scope.names, y.2 = .local ∨ y.2 = .cell → y.1 ∈ own.map (·.1) ∨ y.1 ∉ N
def wipe (σ : St) : List Nat → St
  | [] => σ
  | v :: vs => (wipe σ vs).set v none
theorem wipe_length (σ : St) : ∀ vs : List Nat, (wipe σ vs).length = σ.length
  | [] => rfl
  | v :: vs => by unfold wipe; rw [List.length_set, wipe_length σ vs]
theorem wipe_some {σ : St} {i : Nat} {x : V} : ∀ {vs : List Nat}, (wipe σ vs)[i]? = some (some x) → σ[i]? = some (some x) ∧ i ∉ vs
  | [], h => ⟨h, by simp⟩
  | v :: vs, h => by
    unfold wipe at h
    by_cases hi : v = i
    · subst hi
      by_cases hv : v < (wipe σ vs).length
      · rw [List.getElem?_set_self hv] at h; cases h
      · rw [List.getElem?_eq_none (by simpa using hv)] at h; cases h
    · rw [List.getElem?_set_ne hi] at h
      obtain ⟨h1, h2⟩ := wipe_some h
      exact ⟨h1, by simp only [List.mem_cons, not_or]; exact ⟨fun e => hi e.symm, h2⟩⟩
abbrev Cx.blk (X : Cx) (s : Shared) (H : Hp) (scope : Scope) (cenv : Env) (fp : List Addr) : Cx := { X with s_0 := s, H_0 := H, env := cenv, outer := X.stack, ex := fp, fn := fun x => scope.names.lookup x == some .cell, pn := [], xe := fun _ _ => False }
section
variable {X : Cx} {pins : List (Addr × Obj)} {σ : St} {H : Hp} {s : Shared}
theorem block_start {scope : Scope} {own : List (Str × Nat)} {fp : List Addr} (I : Inv X pins σ H s) (ok : BlkOk X.N X.env.scope scope own) (hN : X.N.Nodup) (hfp : ∀ b ∈ fp, FpOk X pins H b ∧ b < s.heap.objs.size) :
    Inv (X.blk s H scope (compEnvC scope (cellsFrom (s.heap.objs.size + 1) scope.names (cloFrom X.env.cells scope.names [])) s.heap.objs.size X.env) fp) [] (wipe σ (own.map (·.2))) H { s with heap := pushCells (s.heap.push { cls := .type "dict", data := .dict #[] }) scope.names } := by
  have hfree : ∀ y ∈ scope.names, y.2 = .free → ∃ c, X.env.cells.lookup y.1 = some c := fun y hy e => by
    rcases ok.free y hy e with k | k
    · exact I.ok.has _ (.inl k)
    · exact I.ok.has _ (.inr k)
  generalize hcenv : compEnvC scope (cellsFrom (s.heap.objs.size + 1) scope.names (cloFrom X.env.cells scope.names [])) s.heap.objs.size X.env = cenv
  have kp : ∀ b o, s.heap.get? b = some o → (pushCells (s.heap.push { cls := .type "dict", data := .dict #[] }) scope.names).get? b = some o := fun b o e => pushCells_keeps _ _ _ _ (Heap.get?_push_of_some _ e)
  have hL : cenv.locals = s.heap.objs.size := by rw [← hcenv]; rfl
  have hcl : cenv.cells = cellsFrom (s.heap.objs.size + 1) scope.names (cloFrom X.env.cells scope.names []) := by rw [← hcenv]; rfl
  have hsc : cenv.scope = relS scope X.env.scope := by rw [← hcenv]; rfl
  rw [← Heap.size_push s.heap { cls := .type "dict", data := .dict #[] }] at hcl
  have cm : ∀ {y c}, (y, c) ∈ cloFrom X.env.cells scope.names [] → X.env.cells.lookup y = some c ∧ c < s.heap.objs.size := fun {y c} hm => by
    rcases cloFrom_mem hm with hm | ⟨h1, rfl⟩
    · cases hm
    · obtain ⟨c, hc⟩ := hfree _ h1 rfl
      rw [hc]
      obtain ⟨w, z⟩ := I.cell _ _ hc
      exact ⟨rfl, z.lt⟩
  have mem : ∀ {y c}, cenv.cells.lookup y = some c → (X.env.cells.lookup y = some c ∧ c < s.heap.objs.size) ∨ (s.heap.objs.size + 1 ≤ c ∧ CellAt (pushCells (s.heap.push { cls := .type "dict", data := .dict #[] }) scope.names) c none) := fun {y c} e => by
    rw [hcl] at e
    rcases cells_mem (PySem.mem_of_lookup e) with hm | ⟨_, h2, h3⟩
    · exact .inl (cm hm)
    · rw [Heap.size_push] at h2; exact .inr ⟨h2, h3⟩
  have look : ∀ {y}, scope.names.lookup y = some .free → ∃ c, cenv.cells.lookup y = some c ∧ X.env.cells.lookup y = some c := fun {y} hl => by
    have hy : (y, NameKind.free) ∈ scope.names := PySem.mem_of_lookup hl
    obtain ⟨c', e'⟩ := mem_lookup (cells_acc (names := scope.names) (n := (s.heap.push { cls := .type "dict", data := .dict #[] }).objs.size) (cloFrom_has (cells := X.env.cells) (acc := []) hy))
    rw [← hcl] at e'
    refine ⟨c', e', ?_⟩
    rw [hcl] at e'
    rcases cells_mem (PySem.mem_of_lookup e') with hm | ⟨h1, _, _⟩
    · exact (cm hm).1
    · have := ok.uniq _ h1
      rw [hl] at this; cases this
  have okB : (X.blk s H scope cenv fp).Ok := by
    refine ⟨I.ok.mod, by show cenv.scope.kind = _; rw [hsc]; exact ok.kind, by show cenv.globals = _; rw [← hcenv]; exact I.ok.glob, by show cenv.builtins = _; rw [← hcenv]; exact I.ok.blt, by show s.heap.objs.size ≤ cenv.locals; rw [hL]; exact Nat.le_refl _,
      fun y z c e1 e2 => ?_, fun y hy => ?_, fun y c z e => ?_, I.ok.hd, I.ok.frames, .inl rfl, fun b hb => ⟨?_, fun y c e z => ?_⟩, I.bs, Nat.le_trans I.ok.bsz I.sz, fun b o e hb => ?_, fun b hb z => ?_, I.stack, I.stkFree⟩
    · have e1 : cenv.cells.lookup y = some c := e1
      have e2 : cenv.cells.lookup z = some c := e2
      rw [hcl] at e1 e2
      refine cells_inj (fun p hp => ?_) (fun y z c a b => I.ok.inj y z c (cm a).1 (cm b).1) (PySem.mem_of_lookup e1) (PySem.mem_of_lookup e2)
      rw [Heap.size_push]
      exact Nat.lt_succ_of_lt (cm (y := p.1) (c := p.2) hp).2
    · show ∃ c, cenv.cells.lookup y = some c
      have key : ∀ k, cenv.kindOf y = some k → (k = .cell ∨ k = .free) → ∃ c, cenv.cells.lookup y = some c := fun k hk hk' => by
        unfold Env.kindOf at hk
        rw [hsc] at hk
        obtain ⟨k', e, r⟩ := lookup_relS hk
        have : k' = .cell ∨ k' = .free := by
          rcases r with rfl | ⟨rfl, _⟩
          · exact hk'
          · exact .inr rfl
        rcases this with rfl | rfl
        · obtain ⟨c, hm⟩ := cells_has (n := (s.heap.push { cls := .type "dict", data := .dict #[] }).objs.size) (acc := cloFrom X.env.cells scope.names []) (PySem.mem_of_lookup e)
          obtain ⟨c', e'⟩ := mem_lookup hm
          exact ⟨c', by rw [hcl]; exact e'⟩
        · obtain ⟨c, h1, _⟩ := look e
          exact ⟨c, h1⟩
      rcases hy with hy | hy
      · exact key _ hy (.inl rfl)
      · exact key _ hy (.inr rfl)
    · have z : (scope.names.lookup y == some NameKind.cell) = true := z
      have z : scope.names.lookup y = some .cell := by simpa using z
      have e : cenv.cells.lookup y = some c := e
      rw [hcl] at e
      rcases cells_mem (PySem.mem_of_lookup e) with hm | ⟨_, h2, _⟩
      · rcases cloFrom_mem hm with hm | ⟨h1, _⟩
        · cases hm
        · have q := ok.uniq _ h1
          rw [z] at q; cases q
      · rw [Heap.size_push] at h2
        exact Nat.le_of_succ_le h2
    · show b ≠ cenv.locals
      rw [hL]; exact Nat.ne_of_lt (hfp b hb).2
    · have e : cenv.cells.lookup y = some c := e
      rcases mem e with ⟨h1, _⟩ | ⟨h1, _⟩
      · exact (hfp b hb).1.2.2.2.2.1 y c h1 z
      · have h2 : s.heap.objs.size + 1 ≤ b := by rw [← z]; exact h1
        exact absurd (Nat.lt_of_lt_of_le (hfp b hb).2 (Nat.le_of_succ_le h2)) (Nat.lt_irrefl _)
    · rcases (hfp b hb).1.2.2.2.1 with z | z
      · exact I.ok.noex b o e z
      · exact absurd (Nat.lt_of_lt_of_le (Heap.lt_size e) (Nat.le_trans I.ok.bsz z)) (Nat.lt_irrefl _)
    · rcases List.mem_cons.mp (I.stkSub b z) with z | z
      · exact (hfp b hb).1.2.1 z
      · exact (hfp b hb).1.2.2.1 z
  refine ⟨okB, rfl, I.bare, Un.kept kp, ⟨fun _ => none, ?_, fun i y av e1 e2 e3 => ?_⟩, fun y c e => ?_, ?_, fun y c e => ?_, fun p hp => ?_, I.hok.kept kp, by rw [wipe_length]; exact I.len⟩
  · show Heap.Ns _ cenv.locals _
    rw [hL]
    exact Heap.Ns.keeps (Heap.Ns.new ..) fun b o e => pushCells_keeps _ _ _ _ e
  · obtain ⟨e2, hne⟩ := wipe_some e2
    have hfr : scope.names.lookup y = some .free ∧ (cenv.kindOf y = some .cell ∨ cenv.kindOf y = some .free) := by
      have key : ∀ k, cenv.scope.names.lookup y = some k → k = .local ∨ k = .cell ∨ k = .free → scope.names.lookup y = some .free ∧ (cenv.kindOf y = some .cell ∨ cenv.kindOf y = some .free) := fun k hk hk' => by
        have hk0 := hk
        rw [hsc] at hk
        obtain ⟨k', e, r⟩ := lookup_relS hk
        have no : ¬ (k' = .local ∨ k' = .cell) := fun hh => by
          rcases ok.own _ (PySem.mem_of_lookup e) hh with e' | e'
          · obtain ⟨p, hp, hpy⟩ := List.mem_map.mp e'
            have e3 := ok.ix p hp
            have : p.1 = y := hpy
            rw [this] at e3
            exact hne (List.mem_map.mpr ⟨p, hp, nodup_ix hN e3 e1⟩)
          · exact e' (List.mem_of_getElem? e1)
        rcases r with rfl | ⟨rfl, rfl⟩
        · rcases hk' with rfl | rfl | rfl
          · exact absurd (.inl rfl) no
          · exact absurd (.inr rfl) no
          · exact ⟨e, .inr hk0⟩
        · exact ⟨e, .inl hk0⟩
      have e3 : Vis cenv.scope y := e3
      rcases e3 with e3 | e3 | e3
      · exact key _ e3 (.inl rfl)
      · exact key _ e3 (.inr (.inl rfl))
      · exact key _ e3 (.inr (.inr rfl))
    obtain ⟨m, hn, hl⟩ := I.loc
    have hvis : Vis X.env.scope y := (ok.free _ (PySem.mem_of_lookup hfr.1) rfl).elim (fun k => .inr (.inl k)) (fun k => .inr (.inr k))
    obtain ⟨w, r, q⟩ := hl i y av e1 e2 hvis
    refine ⟨w, r, .inr ⟨hfr.2, ?_⟩⟩
    obtain ⟨c, h1, h2⟩ := look hfr.1
    rcases q with ⟨k, _⟩ | ⟨_, c', e', z⟩
    · have k : X.env.scope.names.lookup y = some .local := k
      rcases ok.free _ (PySem.mem_of_lookup hfr.1) rfl with k' | k' <;> rw [show X.env.scope.names.lookup y = _ from k'] at k <;> cases k
    · rw [h2] at e'; cases e'
      exact ⟨c, h1, z.keeps kp⟩
  · have e : cenv.cells.lookup y = some c := e
    rcases mem e with ⟨h1, _⟩ | ⟨_, z⟩
    · obtain ⟨w, z⟩ := I.cell y c h1
      exact ⟨w, z.keeps kp⟩
    · exact ⟨_, z⟩
  · show H cenv.locals = none
    rw [hL]; exact I.hok.fresh (Nat.le_refl _)
  · have e : cenv.cells.lookup y = some c := e
    rcases mem e with ⟨h1, _⟩ | ⟨h1, _⟩
    · exact I.freeC y c h1
    · exact I.hok.fresh (Nat.le_of_succ_le h1)
  · exact absurd (show p ∈ ([] : List (Addr × Obj)) ++ [] from hp) (by simp)
theorem app_ok {E : Value → Shared → Prop} {D : Addr} {xs : List V} {y : V} {v : Value} {Q : Value → Shared → Prop} (I : Inv X pins σ H s) (hD : H D = some (.lst xs)) (hz : xs.length < sizeLine) (r : RelV y v)
    (h : ∀ s', Inv X pins σ (upd H D (.lst (xs ++ [y]))) s' → Q .none s') : wpAny (model X.prog X.w) X.A (call (.builtin "list.append") [.ref D, v]) Q E s := by
  obtain ⟨hz', its, n, ri, e⟩ := I.hok D _ hD
  have hl := ri.length
  refine append_at (hsz := by rw [List.size_toArray]; omega) e fun h' sb ho' => ?_
  refine h { s with heap := h' } (I.write (t' := s.toks) (by rw [hD]; trivial) (.inl rfl) (fun b u hb q => (sb.2 b hb).trans q) ⟨_, ho'⟩ ⟨by rw [List.length_append]; exact hz, its ++ [v], n + 1, ri.append (.cons r .nil), ?_⟩)
  rw [ho']
  simp
def PTs (X : Cx) (ifs : List Expr) (t : TT) : Prop :=
  ∀ (pins : List (Addr × Obj)) (s : Shared) (σ : St) (H : Hp) (Q : Bool → Hp → Prop), Inv X pins σ H s → t σ H Q →
    wpAny (model X.prog X.w) X.A (forIn ifs true fun c r => if r = true then do let ok ← isTrue c X.env (eval c X.env); pure (ForInStep.yield ok) else pure (ForInStep.yield r)) (TP X pins σ Q) X.xe s
def tYes : TT := fun _ H Q => Q true H
theorem pts_nil : PTs X [] tYes := fun _ _ _ H _ I h => wpAny_tests_nil ⟨H, I, h⟩
theorem pts_one {c : Expr} {t : TT} (h : PT X c t) : PTs X [c] t := fun pins s σ H Q I hw => wpAny_tests_one (h pins s σ H Q I hw)
end
theorem thnF {α : Type} {t : Sem α} {Q Q' : α → Shared → Prop} {M : Model} {A : Around} {E : Value → Shared → Prop} {s : Shared} (h : wpAny M A t Q (fun _ _ => False) s) (hQ : ∀ a s, Q a s → Q' a s) : wpAny M A t Q' E s := wpAny_mono h hQ fun _ _ z => False.elim z
theorem compLoop_any {prog : Program} {w : World} {A : Around} {R : Result → Shared → Prop} {s : Shared} {elt target iter : Expr} {ifs : List Expr} {scope : Scope} {pos : Pos} {it acc : Value} {env : Env} (I : Nat → Shared → Prop)
    (turn : ∀ n s, I n s → wpAny (model prog w) A (pyNext it) (fun r s₁ => match r with
      | none => R (.ok .next) s₁
      | some v => wpAny (model prog w) A (letOwnedTupleGo target it v) (fun _ s₁' => wpAny (model prog w) A (assign target env v) (fun _ s₂ =>
          wpAny (model prog w) A (forIn ifs true fun c r => if r = true then do let ok ← isTrue c env (eval c env); pure (ForInStep.yield ok) else pure (ForInStep.yield r)) (fun ok s₃ =>
            if ok = true then wpAny (model prog w) A (eval elt env) (fun x s₄ =>
              wpAny (model prog w) A (call (.builtin "list.append") [acc, x]) (fun _ s₅ => ∃ m, m < n ∧ I m s₅) (notedBy (model prog w) A env fun e s' => R (.error e) s') s₄) (notedBy (model prog w) A env fun e s' => R (.error e) s') s₃
            else ∃ m, m < n ∧ I m s₃) (notedBy (model prog w) A env fun e s' => R (.error e) s') s₂) (notedBy (model prog w) A env fun e s' => R (.error e) s') s₁') (notedBy (model prog w) A env fun e s' => R (.error e) s') s₁) (notedBy (model prog w) A env fun e s' => R (.error e) s') s)
    (n : Nat) (h : I n s) :
    codeAny (model prog w) A (.compLoop (.ListComp elt [⟨target, iter, ifs, 0⟩] scope pos) 0 it acc env) R s := by
  refine codeAny_loop rfl I (fun n s hI => ?_) n h
  show wpAny _ A ((compTurn (.ListComp elt [⟨target, iter, ifs, 0⟩] scope pos) 0 it acc env).onRaise (fun x => do noteFrame x env; theTreesLotGoes x)) _ _ s
  refine wpAny_noted ?_
  rw [compTurn_list]
  refine wpAny_bind (wpAny_standAt (wpAny_bind (wpAny_mono (turn n s hI) (fun r s₁ h₁ => ?_) fun _ _ h' => h')))
  cases r with
  | none => exact wpAny_pure h₁
  | some v =>
    refine wpAny_bind (wpAny_mono h₁ (fun _ s₁' h₁' => ?_) fun _ _ h' => h')
    refine wpAny_bind (wpAny_mono h₁' (fun _ s₂ h₂ => wpAny_bind (wpAny_mono h₂ (fun ok s₃ h₃ => ?_) fun _ _ h' => h')) fun _ _ h' => h')
    cases ok with
    | false => exact wpAny_pure ⟨rfl, h₃⟩
    | true =>
      exact wpAny_bind (wpAny_bind (wpAny_mono h₃ (fun x s₄ h₄ => wpAny_bind (wpAny_mono h₄ (fun _ s₅ h₅ => wpAny_pure (wpAny_pure ⟨rfl, h₅⟩)) fun _ _ h' => h')) fun _ _ h' => h'))
section
variable {X : Cx}
def tLc (wi : TI) (g : TG) (tt : TT) (te : TE) (vs : List Nat) : TE := fun σ H Q => wi σ H fun J H1 => ∀ D, H1 D = none → ∃ W : Nat → Nat → Hp → Prop, (∃ m, W 0 m (upd H1 D (.lst []))) ∧ ∀ i m H, W i m H →
  (J.stop i H ∧ Q (.ref D) H) ∨ (J.go i H ∧ ∃ Nx : Hp → Prop, (∀ H', Nx H' → ∃ m', m' < m ∧ W (i + 1) m' H') ∧ ∀ x H', J.yld i H x H' → g x (wipe σ vs) H' fun σ2 H2 => wipe σ2 vs = wipe σ vs ∧ tt σ2 H2 fun b H3 =>
    if b = true then te σ2 H3 fun y H4 => ∃ acc, H4 D = some (.lst acc) ∧ acc.length < sizeLine ∧ Nx (upd H4 D (.lst (acc ++ [y]))) else Nx H3)
theorem lc_core {pins : List (Addr × Obj)} {s : Shared} {σ : St} {H : Hp} {Q : VK} {elt tg iter : Expr} {ifs : List Expr} {scope : Scope} {own : List (Str × Nat)} {pos pos' : Pos} {wi : TI} {g : TG} {tt : TT} {te : TE} {use : Option (Value → Sem Unit)} {Qf : Value → Shared → Prop}
    (hc : X.calm = true) (hN : X.N.Nodup) (I : Inv X pins σ H s) (hi : PI X tg iter wi) (ok : BlkOk X.N X.env.scope scope own)
    (hg : ∀ (s : Shared) (H : Hp) (C : Addr) (cl : List (Str × Addr)) (fp : List Addr), PG (X.blk s H scope (compEnvC scope cl C X.env) fp) tg g) (ht : ∀ (s : Shared) (H : Hp) (C : Addr) (cl : List (Str × Addr)) (fp : List Addr), PTs (X.blk s H scope (compEnvC scope cl C X.env) fp) ifs tt)
    (he : ∀ (s : Shared) (H : Hp) (C : Addr) (cl : List (Str × Addr)) (fp : List Addr), PE (X.blk s H scope (compEnvC scope cl C X.env) fp) elt te) (hs : ∀ x, foldedSetIterable iter X.env x = pure x)
    (h : tLc wi g tt te (own.map (·.2)) σ H Q)
    (hRR : ∀ D C s' m H', Inv X pins σ H' s' → Q (.ref D) H' → s'.heap.Ns C m → FpOk X pins H' C → compPost (model X.prog X.w) X.A X.xe use Qf (.ref D) C (.ok .next) s') :
    wpAny (model X.prog X.w) X.A (comprehension (.ListComp elt [⟨tg, iter, ifs, 0⟩] scope pos) scope X.env pos' (newList []) false (eval iter X.env) use) Qf X.xe s := by
  have hfree : ∀ y ∈ scope.names, y.2 = .free → ∃ c, X.env.cells.lookup y.1 = some c := fun y hy e => by
    rcases ok.free y hy e with k | k
    · exact I.ok.has _ (.inl k)
    · exact I.ok.has _ (.inr k)
  refine wpAny_comprehension_free (use := use) rfl hs (closure_ok hfree) ok.kind (fun y hy e => by rw [ok.uniq y hy, e])
    (thn (hi pins s σ H _ I h) fun xv s1 hx => thn hx fun itv s2 h2 => ?_)
  obtain ⟨it, fp, tn, J, H2, e, I2, T, st2, f2, q⟩ := h2
  subst e
  refine wpAny_newObj_type (newEnv_comp ?_) (by show 0 ≤ sizeLine; decide)
  generalize hD : s2.heap.objs.size = D
  have hDn : H2 D = none := I2.hok.fresh (Nat.le_of_eq hD)
  obtain ⟨W, ⟨m0, w0⟩, turn⟩ := q D hDn
  -- the new list
  generalize hs3 : ({ s2 with heap := s2.heap.push { cls := .type "list", data := .seq ([] : List Value).toArray } } : Shared) = s3
  have I3 : Inv X pins σ (upd H2 D (.lst [])) s3 := by
    rw [← hs3]
    refine I2.laid (t' := s2.toks) (fun b o e => Heap.get?_push_of_some _ e) (Nat.le_of_eq hD) ⟨Nat.zero_le _, [], 0, .nil, ?_⟩
    rw [← hD]
    exact Heap.get?_push_size _ rfl
  have h3 : s3.heap = s2.heap.push { cls := .type "list", data := .seq ([] : List Value).toArray } := by rw [← hs3]
  have sz : ∀ b ∈ fp, b < s2.heap.objs.size := fun b hb => by
    obtain ⟨o, e, _⟩ := T.obj _ _ st2 b hb
    exact Heap.lt_size e
  have f3 : ∀ b ∈ fp, FpOk X pins (upd H2 D (.lst [])) b ∧ b < s3.heap.objs.size := fun b hb => by
    have hlt := sz b hb
    refine ⟨⟨?_, (f2 b hb).2⟩, by rw [h3, Heap.size_push]; exact Nat.lt_succ_of_lt hlt⟩
    rw [upd_ne (by rw [← hD]; exact Nat.ne_of_lt hlt)]
    exact (f2 b hb).1
  have st3 : tn 0 s3.heap := T.keep _ _ _ st2 fun b _ o e => by rw [h3]; exact Heap.get?_push_of_some _ e
  have I4 := block_start I3 ok hN f3
  have pg := hg s3 (upd H2 D (.lst [])) s3.heap.objs.size (cellsFrom (s3.heap.objs.size + 1) scope.names (cloFrom X.env.cells scope.names [])) fp
  have pt := ht s3 (upd H2 D (.lst [])) s3.heap.objs.size (cellsFrom (s3.heap.objs.size + 1) scope.names (cloFrom X.env.cells scope.names [])) fp
  have pe := he s3 (upd H2 D (.lst [])) s3.heap.objs.size (cellsFrom (s3.heap.objs.size + 1) scope.names (cloFrom X.env.cells scope.names [])) fp
  show codeAny _ _ (.compStart (.ListComp elt [⟨tg, iter, ifs, 0⟩] scope pos) 0 (.ref it) (.ref D) (compEnvC scope (cellsFrom (s3.heap.objs.size + 1) scope.names (cloFrom X.env.cells scope.names [])) s3.heap.objs.size X.env)) (compPost (model X.prog X.w) X.A X.xe use Qf (.ref D) s3.heap.objs.size) { s3 with heap := pushCells (s3.heap.push { cls := .type "dict", data := .dict #[] }) scope.names }
  have nfp : ∀ b ∈ fp, (upd H2 D (.lst [])) b = none := fun b hb => (f3 b hb).1.1
  generalize hce : compEnvC scope (cellsFrom (s3.heap.objs.size + 1) scope.names (cloFrom X.env.cells scope.names [])) s3.heap.objs.size X.env = ce at I4 pg pt pe ⊢
  have cL : ce.locals = s3.heap.objs.size := by subst hce; rfl
  generalize hH3 : upd H2 D (.lst []) = H3 at I3 I4 pg pt pe w0 nfp f3
  generalize hs4 : ({ s3 with heap := pushCells (s3.heap.push { cls := .type "dict", data := .dict #[] }) scope.names } : Shared) = s4 at I4 ⊢
  have st4 : tn 0 s4.heap := T.keep _ _ _ st3 fun b _ o e => by rw [← hs4]; exact pushCells_keeps _ _ _ _ (Heap.get?_push_of_some _ e)
  have stat : ∀ {σ' : St} {H' : Hp} {s' : Shared}, Inv (X.blk s3 H3 scope ce fp) [] σ' H' s' → (∀ b ∈ fp, H' b = none) → ∀ b ∈ fp, FpOk (X.blk s3 H3 scope ce fp) [] H' b := fun {σ' H' s'} I' hn b hb =>
    ⟨hn b hb, (I'.ok.exf b hb).1, I'.ok.exfs b hb, .inl hb, fun x c e => (I'.ok.exf b hb).2 x c e, fun p hp => absurd (show p ∈ ([] : List (Addr × Obj)) ++ [] from hp) (by simp)⟩
  have loop : codeAny (model X.prog X.w) X.A (.compLoop (.ListComp elt [⟨tg, iter, ifs, 0⟩] scope pos) 0 (.ref it) (.ref D) ce) (compPost (model X.prog X.w) X.A X.xe use Qf (.ref D) s3.heap.objs.size) s4 := by
    refine compLoop_any (fun n s' => ∃ i H', Inv (X.blk s3 H3 scope ce fp) [] (wipe σ (own.map (·.2))) H' s' ∧ tn i s'.heap ∧ (∀ b ∈ fp, H' b = none) ∧ W i n H') ?_ m0 ⟨0, H3, I4, st4, nfp, w0⟩
    rintro n s5 ⟨i, H5, I5, st5, n5, w5⟩
    rcases turn i n H5 w5 with ⟨stop, qq⟩ | ⟨go, Nx, hNx, step⟩
    · have td := T.done (X.blk s3 H3 scope ce fp) rfl rfl rfl hc i [] s5 _ H5 (fun _ _ => False) I5 (stat I5 n5) st5 stop
      refine thnF td fun r s6 ⟨hr, I6⟩ => ?_
      subst hr
      -- back in the def's context
      have I7 : Inv X pins σ H5 s6 := I3.call' (ch := fp) I6.os I6.base I6.hok I6.bare fun b hb => ⟨(f3 b hb).1.2.2.2.1, (f3 b hb).1.2.1, (f3 b hb).1.2.2.2.2.1, (f3 b hb).1.2.2.2.2.2⟩
      have nC : H5 s3.heap.objs.size = none := by
        have z : H5 ce.locals = none := I6.free
        rw [cL] at z
        exact z
      obtain ⟨m, hn, _⟩ := I6.loc
      have hn : s6.heap.Ns ce.locals m := hn
      rw [cL] at hn
      exact hRR D s3.heap.objs.size s6 m H5 I7 qq hn (I3.fpOk (Nat.le_refl _) nC)
    · have ti := T.item (X.blk s3 H3 scope ce fp) rfl rfl rfl hc i [] s5 _ H5 (fun _ _ => False) I5 (stat I5 n5) st5 go
      refine thnF ti fun r s6 ⟨u, hr, h6⟩ => ?_
      subst hr
      refine thnF h6 fun _ s7 ⟨x, H7, I7, r7, y7, st7, n7⟩ => ?_
      have I7' := I7.pinned (stat I7 n7) (T.obj _ _ st7)
      refine thnF (pg _ s7 _ H7 x u _ I7' r7 (step x H7 y7)) fun _ s8 ⟨σ8, H8, I8, hw8, q8⟩ => ?_
      refine thnF (pt _ s8 σ8 H8 _ I8 q8) fun b s9 ⟨H9, I9, q9⟩ => ?_
      -- the turn's end
      have fin : ∀ {s' : Shared} {H' : Hp}, Inv (X.blk s3 H3 scope ce fp) ([] ++ pinsAt fp s7.heap) σ8 H' s' → Nx H' → ∃ m, m < n ∧ ∃ i H', Inv (X.blk s3 H3 scope ce fp) [] (wipe σ (own.map (·.2))) H' s' ∧ tn i s'.heap ∧ (∀ b ∈ fp, H' b = none) ∧ W i m H' := fun {s' H'} I' nx => by
        obtain ⟨m', hm, w'⟩ := hNx H' nx
        have pin' : ∀ b ∈ fp, ∀ o, s7.heap.get? b = some o → s'.heap.get? b = some o ∧ H' b = none := fun b hb o e =>
          let z := I'.pin (b, o) (List.mem_append_right _ (List.mem_append_right _ (mem_pinsAt hb e)))
          ⟨z.1, z.2.1⟩
        have hl : (wipe σ (own.map (·.2))).length = σ8.length := by rw [← hw8, wipe_length]
        refine ⟨m', hm, i + 1, H', (I'.unpinned (pins := [])).weak hl (fun j v e => ?_), T.keep _ _ _ st7 fun b hb o e => (pin' b hb o e).1, fun b hb => ?_, w'⟩
        · rw [← hw8] at e
          exact (wipe_some e).1
        · obtain ⟨o, e, _⟩ := T.obj _ _ st7 b hb
          exact (pin' b hb o e).2
      cases b with
      | false =>
        simp only [Bool.false_eq_true, if_false] at q9 ⊢
        exact fin I9 q9
      | true =>
        simp only [if_true] at q9 ⊢
        refine thnF (pe _ s9 σ8 H9 _ I9 q9) fun z s10 ⟨yv, H10, I10, r10, acc, hD10, hz10, nx⟩ => ?_
        exact app_ok (X := X.blk s3 H3 scope ce fp) I10 hD10 hz10 r10 fun s11 I11 => fin I11 nx
  exact codeAny_compStart_list loop (T.self X.A 0 _ _ _ st4 loop)
theorem pe_lc {elt tg iter : Expr} {ifs : List Expr} {scope : Scope} {own : List (Str × Nat)} {pos : Pos} {wi : TI} {g : TG} {tt : TT} {te : TE} (hc : X.calm = true) (hN : X.N.Nodup) (hi : PI X tg iter wi) (ok : BlkOk X.N X.env.scope scope own)
    (hg : ∀ (s : Shared) (H : Hp) (C : Addr) (cl : List (Str × Addr)) (fp : List Addr), PG (X.blk s H scope (compEnvC scope cl C X.env) fp) tg g) (ht : ∀ (s : Shared) (H : Hp) (C : Addr) (cl : List (Str × Addr)) (fp : List Addr), PTs (X.blk s H scope (compEnvC scope cl C X.env) fp) ifs tt)
    (he : ∀ (s : Shared) (H : Hp) (C : Addr) (cl : List (Str × Addr)) (fp : List Addr), PE (X.blk s H scope (compEnvC scope cl C X.env) fp) elt te) (hs : ∀ x, foldedSetIterable iter X.env x = pure x := by intro _; rfl) :
    PE X (.ListComp elt [⟨tg, iter, ifs, 0⟩] scope pos) (tLc wi g tt te (own.map (·.2))) := by
  intro pins s σ H Q I h
  rw [eval_ListComp]
  refine lc_core hc hN I hi ok hg ht he hs h fun D C s' m H' I' q hn f => ⟨m, hn, fun h'' sb => ?_⟩
  obtain ⟨f0, f1, f2, f3, f4, f5⟩ := f
  exact ⟨.ref D, H', I'.turned (t' := s'.toks) (fun b o hb e => (sb.2 b hb).trans e) f0 f1 f3 f4 f5, rfl, q⟩
theorem ps_setLc {i : Nat} {y : Str} {py : Pos} {elt tg iter : Expr} {ifs : List Expr} {scope : Scope} {own : List (Str × Nat)} {pos spos : Pos} {wi : TI} {g : TG} {tt : TT} {te : TE} (hc : X.calm = true) (hN : X.N.Nodup) (hy : X.N[i]? = some y) (hyl : X.env.scope.names.lookup y = some .local)
    (hsw : swapsWith (.ListComp elt [⟨tg, iter, ifs, 0⟩] scope pos) (some (.Name y py)) spos.line X.env = pure true) (hi : PI X tg iter wi) (ok : BlkOk X.N X.env.scope scope own)
    (hg : ∀ (s : Shared) (H : Hp) (C : Addr) (cl : List (Str × Addr)) (fp : List Addr), PG (X.blk s H scope (compEnvC scope cl C X.env) fp) tg g) (ht : ∀ (s : Shared) (H : Hp) (C : Addr) (cl : List (Str × Addr)) (fp : List Addr), PTs (X.blk s H scope (compEnvC scope cl C X.env) fp) ifs tt)
    (he : ∀ (s : Shared) (H : Hp) (C : Addr) (cl : List (Str × Addr)) (fp : List Addr), PE (X.blk s H scope (compEnvC scope cl C X.env) fp) elt te) (hs : ∀ x, foldedSetIterable iter X.env x = pure x := by intro _; rfl) :
    PS X (.Assign [.Name y py] (.ListComp elt [⟨tg, iter, ifs, 0⟩] scope pos) spos) (tAsg (tLc wi g tt te (own.map (·.2))) (gName i)) := by
  intro pins s σ H D I h
  rw [exec_Assign_Name_used _ _ _ _ hsw]
  refine wpAny_bind (wpAny_standAt (wpAny_bind ?_))
  show wpAny _ X.A (do let _ ← comprehension (.ListComp elt [⟨tg, iter, ifs, 0⟩] scope pos) scope X.env (firstIterPos [⟨tg, iter, ifs, 0⟩] pos) (newList []) false (eval iter X.env) (some (assign (.Name y py) X.env))) _ _ s
  have h : tLc wi g tt te (own.map (·.2)) σ H (fun x H1 => gName i x σ H1 D.nx) := h
  refine wpAny_bind (thn (lc_core (Qf := fun _ s' => SP X pins D .next s') hc hN I hi ok hg ht he hs h fun L C s' m H' I' q hn f => ?_) fun _ s' hq => wpAny_pure (wpAny_pure hq))
  show wpAny _ _ (assign (.Name y py) X.env (.ref L)) _ _ _
  refine wpAny_assign_Name (store_ok2 (v := V.ref L) I' hN hy (.inl hyl) rfl (fun s2 I2 ⟨a, sb, ha⟩ => ?_) (.inr hyl))
  obtain ⟨f0, f1, f2, f3, f4, f5⟩ := f
  have haC : C ≠ a := by
    rcases ha with z | z
    · rw [z]; exact f1
    · exact fun e => f4 y a z e.symm
  refine ⟨m, hn.sameBut sb haC, fun h3 sb3 => ?_⟩
  exact ⟨_, H', I2.turned (t' := s2.toks) (fun b o hb e => (sb3.2 b hb).trans e) f0 f1 f3 f4 f5, q⟩
theorem sw_true {elt : Expr} {gs : List Comprehension} {scope : Scope} {pos py : Pos} {y : Str} {l : Nat} {env : Env} (hk : env.scope.kind = .function) (hy : env.scope.names.lookup y = some .local) (hl : (py.line == pos.line) = true)
    (ha : (scope.names.any fun (n, k) => n == y && (k == .local || k == .cell)) = false) : swapsWith (.ListComp elt gs scope pos) (some (.Name y py)) l env = pure true := by
  have ky : env.kindOf y = some .local := hy
  have hb : env.blockKind = .function := by unfold Env.blockKind; rw [hk]; rfl
  unfold swapsWith
  simp only [hb, ky, ha, Expr.pos, hl]
  rfl
end
theorem lc_range {lo : Int} {n : Nat} {g : TG} {tt : TT} {te : TE} {vs : List Nat} {σ : St} {H1 : Hp} {D : Addr} {Qd : Hp → Prop} (Pv : Nat → Hp → Prop) (h0 : Pv 0 (upd H1 D (.lst [])))
    (hs : ∀ i H, i < n → Pv i H → g (.int (lo + i)) (wipe σ vs) H fun σ2 H2 => wipe σ2 vs = wipe σ vs ∧ tt σ2 H2 fun b H3 =>
      if b = true then te σ2 H3 fun y H4 => ∃ acc, H4 D = some (.lst acc) ∧ acc.length < sizeLine ∧ Pv (i + 1) (upd H4 D (.lst (acc ++ [y]))) else Pv (i + 1) H3) (hd : ∀ H, Pv n H → Qd H) :
    ∃ W : Nat → Nat → Hp → Prop, (∃ m, W 0 m (upd H1 D (.lst []))) ∧ ∀ i m H, W i m H →
      ((Itr lo n).stop i H ∧ Qd H) ∨ ((Itr lo n).go i H ∧ ∃ Nx : Hp → Prop, (∀ H', Nx H' → ∃ m', m' < m ∧ W (i + 1) m' H') ∧ ∀ x H', (Itr lo n).yld i H x H' → g x (wipe σ vs) H' fun σ2 H2 => wipe σ2 vs = wipe σ vs ∧ tt σ2 H2 fun b H3 =>
        if b = true then te σ2 H3 fun y H4 => ∃ acc, H4 D = some (.lst acc) ∧ acc.length < sizeLine ∧ Nx (upd H4 D (.lst (acc ++ [y]))) else Nx H3) := by
  refine ⟨fun i m H => m = n - i ∧ i ≤ n ∧ Pv i H, ⟨n, by simp, Nat.zero_le _, h0⟩, ?_⟩
  rintro i m H ⟨rfl, hi, p⟩
  by_cases hlt : i < n
  · refine .inr ⟨hlt, Pv (i + 1), fun H' p' => ⟨n - (i + 1), by omega, rfl, hlt, p'⟩, fun x H' y => ?_⟩
    obtain ⟨e, y⟩ := y
    subst e y
    exact hs i _ hlt p
  · have e : i = n := by omega
    subst e
    exact .inl ⟨Nat.le_refl _, hd H p⟩
theorem lc_list {K : PySem.W.Frag} {a : Addr} {xs : List V} {g : TG} {tt : TT} {te : TE} {vs : List Nat} {σ : St} {H1 : Hp} {D : Addr} {Qd : Hp → Prop} (Pv : Nat → Hp → Prop) (h0 : Pv 0 (upd H1 D (.lst []))) (hl : ∀ i H, i ≤ xs.length → Pv i H → SqL K H a xs)
    (hs : ∀ i x H, xs[i]? = some x → Pv i H → g x (wipe σ vs) H fun σ2 H2 => wipe σ2 vs = wipe σ vs ∧ tt σ2 H2 fun b H3 =>
      if b = true then te σ2 H3 fun y H4 => ∃ acc, H4 D = some (.lst acc) ∧ acc.length < sizeLine ∧ Pv (i + 1) (upd H4 D (.lst (acc ++ [y]))) else Pv (i + 1) H3) (hd : ∀ H, Pv xs.length H → Qd H) :
    ∃ W : Nat → Nat → Hp → Prop, (∃ m, W 0 m (upd H1 D (.lst []))) ∧ ∀ i m H, W i m H →
      ((Itl K a).stop i H ∧ Qd H) ∨ ((Itl K a).go i H ∧ ∃ Nx : Hp → Prop, (∀ H', Nx H' → ∃ m', m' < m ∧ W (i + 1) m' H') ∧ ∀ x H', (Itl K a).yld i H x H' → g x (wipe σ vs) H' fun σ2 H2 => wipe σ2 vs = wipe σ vs ∧ tt σ2 H2 fun b H3 =>
        if b = true then te σ2 H3 fun y H4 => ∃ acc, H4 D = some (.lst acc) ∧ acc.length < sizeLine ∧ Nx (upd H4 D (.lst (acc ++ [y]))) else Nx H3) := by
  refine ⟨fun i m H => m = xs.length - i ∧ i ≤ xs.length ∧ Pv i H, ⟨xs.length, by simp, Nat.zero_le _, h0⟩, ?_⟩
  rintro i m H ⟨rfl, hi, p⟩
  have q := hl i H hi p
  by_cases hlt : i < xs.length
  · refine .inr ⟨⟨xs, xs[i], q, by simp [hlt]⟩, Pv (i + 1), fun H' p' => ⟨xs.length - (i + 1), by omega, rfl, hlt, p'⟩, fun x H' y => ?_⟩
    obtain ⟨e, y⟩ := y
    subst e
    exact hs i x _ (y xs q) p
  · have e : i = xs.length := by omega
    subst e
    exact .inl ⟨⟨xs, q, Nat.le_refl _⟩, hd H p⟩
def blkC (N : List Str) (sc scope : Scope) (own : List (Str × Nat)) : Bool :=
  (match scope.kind with | .function => true | _ => false) && (scope.names.all fun y => decide (scope.names.lookup y.1 = some y.2)) && (own.all fun p => decide (N[p.2]? = some p.1)) &&
    (scope.names.all fun y => match y.2 with
      | .free => (match sc.names.lookup y.1 with | some .cell => true | some .free => true | _ => false)
      | .local => decide (y.1 ∈ own.map (·.1)) || decide (y.1 ∉ N)
      | .cell => decide (y.1 ∈ own.map (·.1)) || decide (y.1 ∉ N)
      | _ => true)
theorem blkOk_by {N : List Str} {sc scope : Scope} {own : List (Str × Nat)} (h : blkC N sc scope own = true) : BlkOk N sc scope own := by
  unfold blkC at h
  simp only [Bool.and_eq_true, List.all_eq_true, decide_eq_true_eq] at h
  obtain ⟨⟨⟨h1, h2⟩, h3⟩, h4⟩ := h
  refine ⟨?_, h2, h3, fun y hy e => ?_, fun y hy e => ?_⟩
  · split at h1
    · assumption
    · cases h1
  · have q := h4 y hy
    simp only [e] at q
    split at q <;> first | exact .inl (by assumption) | exact .inr (by assumption) | cases q
  · have q := h4 y hy
    rcases e with e | e <;> (simp only [e, Bool.or_eq_true, decide_eq_true_eq] at q; exact q)
end L2
namespace L2
open PySem PySem.Spec PyProof.Rows
section
variable {prog : Program} {w : World} {A : Around} {R : Result → Shared → Prop} {s : Shared} {elt t0 i0 t1 i1 : Expr} {ifs0 ifs1 : List Expr} {scope : Scope} {pos : Pos} {it acc : Value} {env : Env}
end
section
variable {X : Cx}
end
end L2
namespace L2
open PySem PySem.Spec PyProof.Rows
section
variable {κ : Type} [DecidableEq κ]
end
section
variable {P : Program} {w : World} {H : Hp} {h : Heap} {a : Addr}
end
section
variable {X : Cx} {pins : List (Addr × Obj)} {σ : St} {H : Hp} {s : Shared} {a : Addr} {y v : V} {u r : Value} {o : Option V} {A : Around} {E : Value → Shared → Prop}
end
section
variable {X : Cx} {pins : List (Addr × Obj)} {σ : St} {H : Hp} {s : Shared} {a : Addr} {kvs : List (Key × V)} {k : Key} {u : Value} {A : Around} {E : Value → Shared → Prop}
end
def NoSl (i : Expr) : Prop := ∀ ov iv, subscripted i false ov iv = operate [ov, iv] (getItem ov iv)
theorem subD_of {prog : Program} {w : World} {A : Around} {E : Value → Shared → Prop} {s : Shared} {env : Env} {value slice : Expr} {pos : Pos} {T id : String} {Q : Value → Shared → Prop}
    (hl : typeLookup (.type T) "__getitem__" = pure (some (.builtin id))) (hs : NoSl slice)
    (h : wpAny (model prog w) A (eval value env) (fun o s₁ => wpAny (model prog w) A (eval slice env) (fun i s₂ => s₂.TypeIs o T ∧ wpAny (model prog w) A (getItem o i) Q E s₂) E s₁) E s) :
    wpAny (model prog w) A (eval (.Subscript value slice pos) env) Q E s := by
  refine Subscript_ (wpAny_mono h (fun o s₁ h₁ => wpAny_mono h₁ (fun i s₂ h₂ => ?_) fun _ _ x => x) fun _ _ x => x)
  obtain ⟨hT, h₂⟩ := h₂
  unfold subscriptTail
  refine wpAny_bind ?_
  rw [getitemInPython_of_ne hT.not_modules]
  refine wpAny_bind (wpAny_specialOf hT hl ?_)
  have fin : wpAny (model prog w) A (subscripted slice false o i) (fun r s₃ => wpAny (model prog w) A (letTemporaryGo value o r >>= fun _ => pure r) Q E s₃) E s₂ := by
    rw [hs o i]
    exact wpAny_operating (wpAny_mono h₂ (fun r s₃ h₃ => wpAny_bind (wpAny_letTemporaryGo (wpAny_pure h₃))) fun _ _ x => x)
  first
    | exact wpAny_pure (wpAny_bind fin)
    | exact wpAny_bind (wpAny_pure (wpAny_bind fin))
    | exact wpAny_bind fin
section
variable {X : Cx} {o i e value : Expr} {pos pos' tpos : Pos} {td ty tv : TE}
end
section
variable {X : Cx} {pos : Pos}
end
structure M1 (X : Cx) (o : Expr) (m : Str) (apos : Pos) (e : Expr) (cpos : Pos) : Prop where
  base : attributeBase o m X.env (eval o X.env) = eval o X.env
  few : ((backTo cpos (starEach [e] X.env)).all (fun x => !x.1) && (backToKw cpos (keywordEach [] X.env)).all (fun x => x.1.isSome)
    && decide (([e] : List Expr).length + ([] : List Keyword).length + (if ([] : List Keyword).isEmpty then 0 else 1) < 30)) = true
  line : (apos.endLine == cpos.line) = true
  trees : backTo cpos (starEach [e] X.env) = [(false, eval e X.env)]
structure M2 (X : Cx) (o : Expr) (m : Str) (apos : Pos) (e f : Expr) (cpos : Pos) : Prop where
  base : attributeBase o m X.env (eval o X.env) = eval o X.env
  few : ((backTo cpos (starEach [e, f] X.env)).all (fun x => !x.1) && (backToKw cpos (keywordEach [] X.env)).all (fun x => x.1.isSome)
    && decide (([e, f] : List Expr).length + ([] : List Keyword).length + (if ([] : List Keyword).isEmpty then 0 else 1) < 30)) = true
  line : (apos.endLine == cpos.line) = true
  trees : backTo cpos (starEach [e, f] X.env) = [(false, eval e X.env), (false, eval f X.env)]
section
variable {X : Cx} {pins : List (Addr × Obj)} {σ : St} {H : Hp} {s : Shared} {a : Addr} {y d : V} {u r : Value} {o : Option V} {A : Around} {E : Value → Shared → Prop}
end
section
variable {X : Cx} {o e f : Expr} {apos cpos : Pos} {td ty tx : TE}
end
section
variable {X : Cx} {pins : List (Addr × Obj)} {σ : St} {H : Hp} {s : Shared} {a : Addr} {kvs : List (Key × V)} {A : Around} {E : Value → Shared → Prop}
end
section
variable {X : Cx} {pins : List (Addr × Obj)} {σ : St} {H : Hp} {s : Shared} {a : Addr} {y : V} {u : Value} {A : Around} {E : Value → Shared → Prop}
end
end L2
namespace L2
open PySem PySem.Spec PyProof.Rows
section
variable {prog : Program} {w : World} {A : Around} {E : Value → Shared → Prop}
end
section
variable {X : Cx}
end
end L2
namespace L2
open PySem PySem.Spec PyProof.Rows
section
variable {X : Cx} {pins : List (Addr × Obj)} {σ : St} {H : Hp} {s : Shared} {h' : Heap}
theorem Inv.turnedL {t' : Nat} {ch : List Addr} (I : Inv X pins σ H s) (k : ∀ b o, b ∉ ch → s.heap.get? b = some o → h'.get? b = some o) (hf : ∀ b ∈ ch, FpOk X pins H b) : Inv X pins σ H { s with heap := h', toks := t' } := by
  have nit : ∀ b u, H b = some u → b ∉ ch := fun b u e z => by
    have q := (hf b z).1
    rw [q] at e; cases e
  refine I.step (g' := s.gens) (d' := s.drawn) (ch := ch) (fun b hb => ⟨(hf b hb).2.2.2.1, (hf b hb).2.1, (hf b hb).2.2.2.2.1, (hf b hb).2.2.2.2.2⟩) (fun b o _ _ hc e _ => k b o hc e) (fun b o _ _ hc e _ => ⟨o.slots, k b o hc e⟩)
    (fun _ _ _ _ n => n) (fun b o hc e => ⟨o, k b o hc e⟩) (fun _ _ e => e) (fun _ _ _ e => e) (fun b ps e => ⟨#[], by rw [e]; simp⟩) (fun m hm => ?_) (fun b u e => ?_) I.bare
  · obtain ⟨o, es, ep, ho, r⟩ := hm
    exact ⟨o, es, ep, k _ o (fun z => (hf _ z).2.1 rfl) ho, r⟩
  · refine (I.hok b u e).stay (fun c v hc q => k c v ?_ q) (fun _ q => q) fun _ _ q => q
    rcases hc with z | z
    · rw [z]; exact nit b u e
    · exact nit c _ z
theorem Inv.turnedNew {t' : Nat} {ch : List Addr} {T : Addr} {ob : HO} (I : Inv X pins σ H s) (k : ∀ b o, b ∉ ch → s.heap.get? b = some o → h'.get? b = some o) (hf : ∀ b ∈ ch, FpOk X pins H b) (hT : s.heap.objs.size ≤ T)
    (new : ObjOk X.prog X.w (upd H T ob) h' T ob) : Inv X pins σ (upd H T ob) { s with heap := h', toks := t' } := by
  have hn : H T = none := I.hok.fresh hT
  have nit : ∀ b u, H b = some u → b ∉ ch := fun b u e z => by
    have q := (hf b z).1
    rw [q] at e; cases e
  refine I.step (g' := s.gens) (d' := s.drawn) (ch := ch) (fun b hb => ⟨(hf b hb).2.2.2.1, (hf b hb).2.1, (hf b hb).2.2.2.2.1, (hf b hb).2.2.2.2.2⟩) (fun b o _ _ hc e _ => k b o hc e) (fun b o _ _ hc e _ => ⟨o.slots, k b o hc e⟩)
    (fun b o _ e n => ?_) (fun b o hc e => ⟨o, k b o hc e⟩) (fun b xs e => ?_) (fun b o u e => ?_) (fun b ps e => ⟨#[], ?_⟩) (fun m hm => ?_) (fun b u e => ?_) I.bare
  · rw [upd_ne (Nat.ne_of_lt (Nat.lt_of_lt_of_le (Heap.lt_size e) hT))]; exact n
  · rw [upd_ne (ne_of_none e hn)]; exact e
  · rw [upd_ne (ne_of_none e hn)]; exact e
  · rw [upd_ne (ne_of_none e hn), e]; simp
  · obtain ⟨o, es, ep, ho, r⟩ := hm
    exact ⟨o, es, ep, k _ o (fun z => (hf _ z).2.1 rfl) ho, r⟩
  · by_cases hb : b = T
    · subst hb
      rw [upd_same] at e
      cases e
      exact new
    · rw [upd_ne hb] at e
      refine (I.hok b u e).stay (fun c v hc q => k c v ?_ q) (fun c q => by rw [upd_ne (ne_of_none q hn)]; exact q) fun c xs q => by rw [upd_ne (ne_of_none q hn)]; exact q
      rcases hc with z | z
      · rw [z]; exact nit b u e
      · exact nit c _ z
end
section
variable {X : Cx}
end
section
variable {X : Cx} {tg : Expr}
end
section
variable {X : Cx} {tg : Expr}
end
def Its (x : Str) : It := ⟨fun i _ => i < x.cps.size, fun i H v H' => H' = H ∧ ∃ c, x.cps[i]? = some c ∧ v = .str ⟨#[c]⟩, fun i _ => x.cps.size ≤ i⟩
section
variable {prog : Program} {w : World} {A : Around} {E : Value → Shared → Prop} {s : Shared}
end
section
variable {X : Cx} {pins : List (Addr × Obj)} {σ : St} {H : Hp} {s : Shared} {d : Addr} {o : Obj}
end
section
variable {P : Program} {w : World} {K : PySem.W.Frag} {tg : Expr} {d : Addr} {o : Obj} {es : Array DictEntry} {ep : Nat}
end
section
variable {X : Cx} {tg e : Expr} {td : TE} {apos cpos : Pos}
end
def Ite (K : PySem.W.Frag) (a : Addr) : It :=
  ⟨fun i H => ∃ (xs : List V) (x : V), SqL K H a xs ∧ xs[i]? = some x, fun i H v H' => ∃ T x, v = .ref T ∧ H T = none ∧ H' = upd H T (.tup [.int (i : Nat), x]) ∧ ∀ xs, SqL K H a xs → xs[i]? = some x, fun i H => ∃ xs : List V, SqL K H a xs ∧ xs.length ≤ i⟩
theorem turn_enum {P : Program} {w : World} {K : PySem.W.Frag} {elts : List Expr} {kk : Nat} {tpos : Pos} (a e it : Addr) :
    Turn P w K (.Tuple elts kk tpos) (Ite K a) [e, it] e (fun i h => (∃ old, IsEnum h e it ((i : Nat) : Int) old) ∧ h.IsListIter it a i ∧ e ≠ it) where
  mem := by simp
  obj := fun i h st b hb => by
    obtain ⟨⟨old, he⟩, ⟨o, ho, hc, hd⟩, _⟩ := st
    have e' : b = e ∨ b = it := by simpa using hb
    rcases e' with z | z
    · rw [z]; exact ⟨_, he, fun v q => nomatch q⟩
    · rw [z]; exact ⟨o, ho, fun v q => by rw [hd] at q; cases q⟩
  keep := fun i h h' st k => let ⟨⟨old, he⟩, hi, hne⟩ := st; ⟨⟨old, k e (by simp) _ he⟩, hi.at fun o q => k it (by simp) o q, hne⟩
  item := by
    intro X hP hw hK hc i pins s σ H E I hf st hg
    subst hP hw hK
    obtain ⟨⟨old, he⟩, hit, hne⟩ := st
    obtain ⟨xs, x, hq, hx⟩ := hg
    obtain ⟨its, rv, p, hz⟩ := I.list hq
    obtain ⟨u, hu, ru⟩ := rv.get hx
    have hel : e < s.heap.objs.size := Heap.lt_size he
    have hil : it < s.heap.objs.size := by obtain ⟨_, q, _⟩ := hit; exact Heap.lt_size q
    refine wpAny_pyNext_enum_item he hit p.isList (x := u) (by simpa using hu) hne fun h' ho hit' hT hsz hk => ?_
    refine ⟨_, rfl, wpAny_letOwnedTupleGo_enum (s := { s with heap := h', toks := s.toks + 1 }) ho fun h'' he' sb => ?_⟩
    have hT2 : h''.get? s.heap.objs.size = some { cls := .type "tuple", data := .seq #[.int i s.toks, u] } := (sb.2 _ (Nat.ne_of_gt hel)).trans hT
    have new : ObjOk X.prog X.w (upd H s.heap.objs.size (.tup [.int (i : Nat), x])) h'' s.heap.objs.size (.tup [.int (i : Nat), x]) :=
      ⟨by show 2 ≤ sizeLine; decide, [.int i s.toks, u], .cons ⟨_, rfl⟩ (.cons ru .nil), ⟨_, hT2, rfl, _, rfl⟩⟩
    have I1 : Inv X pins σ (upd H s.heap.objs.size (.tup [.int (i : Nat), x])) { s with heap := h'', toks := s.toks + 1 } :=
      I.turnedNew (ch := [e, it]) (fun b ob hb q => (sb.2 b (fun z => hb (by simp [z]))).trans (hk b ob (fun z => hb (by simp [z])) (fun z => hb (by simp [z])) q)) hf (Nat.le_refl _) new
    refine ⟨.ref s.heap.objs.size, _, I1, rfl, ⟨_, x, rfl, I.hok.fresh (Nat.le_refl _), rfl, fun ys hy => by rw [I.list_inj hy hq]; exact hx⟩, ⟨⟨u, ?_⟩, hit'.at fun o q => (sb.2 it (Ne.symm hne)).trans q, hne⟩, fun b hb => ?_⟩
    · have e1 : ((i + 1 : Nat) : Int) = (i : Int) + 1 := by omega
      rw [e1]; exact he'
    · have hb' : b < s.heap.objs.size := by
        have e' : b = e ∨ b = it := by simpa using hb
        rcases e' with z | z
        · rw [z]; exact hel
        · rw [z]; exact hil
      rw [upd_ne (Nat.ne_of_lt hb')]
      exact (hf b hb).1
  done := by
    intro X hP hw hK hc i pins s σ H E I hf st hg
    subst hP hw hK
    obtain ⟨⟨old, he⟩, hit, hne⟩ := st
    obtain ⟨xs, hq, hx⟩ := hg
    obtain ⟨its, rv, p, hz⟩ := I.list hq
    obtain ⟨f0, f1, f2, f3, f4, f5⟩ := hf it (by simp)
    have hl := rv.length
    exact wpAny_pyNext_enum_end (I.ok.hd hc) he hit p.isList (by simp; omega) fun h' eb => ⟨rfl, I.turned (t' := s.toks) (fun b o hb q => eb b o hb q) f0 f1 f3 f4 f5⟩
  self := fun A i s Q E st h => let ⟨⟨_, he⟩, _⟩ := st; wpAny_pyIter_enum he h
def iEnum (K : PySem.W.Frag) (ta : TA) : TI := fun σ H R => ta σ H fun vs H1 => ∃ a xs, vs = [.ref a] ∧ SqL K H1 a xs ∧ R (Ite K a) H1
theorem pi_enum {X : Cx} {e : Expr} {ta : TA} {p pos tpos : Pos} {elts : List Expr} {kk : Nat} (hg : Gl X "enumerate") (hm : X.mg "enumerate" = none) (ha : PA X [e] ta) (hs : starEach [e] X.env = [(false, eval e X.env)] := by rfl) :
    PI X (.Tuple elts kk tpos) (.Call (.Name "enumerate" p) [e] [] pos) (iEnum X.K ta) := by
  intro pins s σ H R I h
  refine Call_ (ld_blt I hg hm boot_enumerate (PyProof.Rows.callWith_type1 (thn (ha pos pins s σ H _ I h) fun us s1 ⟨vs, H1, I1, r1, q1⟩ => ?_) hs rfl))
  obtain ⟨a, xs, ex, hq, q⟩ := q1
  subst ex
  cases r1 with
  | cons r rr =>
    cases rr
    cases r
    obtain ⟨its, rv, p', hz⟩ := I1.list hq
    refine call_enumerate_list p'.isList fun h' he hit hsz hk => wpAny_pyIter_enum he ?_
    have I2 : Inv X pins σ H1 { s1 with heap := h' } := I1.kept (t' := s1.toks) hk
    refine ⟨s1.heap.objs.size + 1, [s1.heap.objs.size + 1, s1.heap.objs.size], _, _, H1, rfl, I2, turn_enum a (s1.heap.objs.size + 1) s1.heap.objs.size, ⟨⟨.none, he⟩, hit, Nat.succ_ne_self _⟩, fun b hb => ?_, q⟩
    have e' : b = s1.heap.objs.size + 1 ∨ b = s1.heap.objs.size := by simpa using hb
    have hle : s1.heap.objs.size ≤ b := by
      rcases e' with z | z
      · rw [z]; exact Nat.le_add_right _ _
      · rw [z]; exact Nat.le_refl _
    exact I1.fpOk hle (I1.hok.fresh hle)
theorem boot_zip5 : bootBuiltins "zip" = some (.type "zip") := by decide +kernel
def Itz (K : PySem.W.Frag) (a b : Addr) : It :=
  ⟨fun i H => ∃ (xs ys : List V) (x y : V), SqL K H a xs ∧ SqL K H b ys ∧ xs[i]? = some x ∧ ys[i]? = some y,
    fun i H v H' => ∃ T x y, v = .ref T ∧ H T = none ∧ H' = upd H T (.tup [x, y]) ∧ (∀ xs, SqL K H a xs → xs[i]? = some x) ∧ ∀ ys, SqL K H b ys → ys[i]? = some y,
    fun i H => ∃ xs ys : List V, SqL K H a xs ∧ SqL K H b ys ∧ (xs.length ≤ i ∨ ys.length ≤ i)⟩
theorem turn_zip {P : Program} {w : World} {K : PySem.W.Frag} {elts : List Expr} {kk : Nat} {tpos : Pos} {a b z TI TO i1 i2 : Addr} (D : ZipApart z TI TO i1 i2 a b) :
    Turn P w K (.Tuple elts kk tpos) (Itz K a b) [z, TI, TO, i1, i2] z (fun i h => IsZip h z TI TO .none ∧ IsPair h TI (.ref i1) (.ref i2) ∧ (∃ x y, IsPair h TO x y) ∧ h.IsListIter i1 a i ∧ h.IsListIter i2 b i) where
  mem := by simp
  obj := fun i h st c hc => by
    obtain ⟨hz, hTI, ⟨x, y, hTO⟩, ⟨o1, e1, _, d1⟩, ⟨o2, e2, _, d2⟩⟩ := st
    have e' : c = z ∨ c = TI ∨ c = TO ∨ c = i1 ∨ c = i2 := by simpa using hc
    rcases e' with q | q | q | q | q
    · rw [q]; exact ⟨_, hz, fun v q => nomatch q⟩
    · rw [q]; exact ⟨_, hTI, fun v q => nomatch q⟩
    · rw [q]; exact ⟨_, hTO, fun v q => nomatch q⟩
    · rw [q]; exact ⟨o1, e1, fun v q => by rw [d1] at q; cases q⟩
    · rw [q]; exact ⟨o2, e2, fun v q => by rw [d2] at q; cases q⟩
  keep := fun i h h' st k => by
    obtain ⟨hz, hTI, ⟨x, y, hTO⟩, h1, h2⟩ := st
    exact ⟨k z (by simp) _ hz, k TI (by simp) _ hTI, ⟨x, y, k TO (by simp) _ hTO⟩, h1.at fun o q => k i1 (by simp) o q, h2.at fun o q => k i2 (by simp) o q⟩
  item := by
    intro X hP hw hK hc i pins s σ H E I hf st hg
    subst hP hw hK
    obtain ⟨hz, hTI, ⟨x0, y0, hTO⟩, h1, h2⟩ := st
    obtain ⟨xs, ys, x, y, hqx, hqy, hx, hy⟩ := hg
    obtain ⟨its, rv, p, _⟩ := I.list hqx
    obtain ⟨its2, rv2, p2, _⟩ := I.list hqy
    obtain ⟨u, hu, ru⟩ := rv.get hx
    obtain ⟨u2, hu2, ru2⟩ := rv2.get hy
    have hzl : z < s.heap.objs.size := Heap.lt_size hz
    refine wpAny_pyNext_zip_item D hz hTI hTO h1 h2 p.isList p2.isList (x := u) (y := u2) (by simpa using hu) (by simpa using hu2) fun h' z' TO' h1' h2' hT hsz hk => ?_
    refine ⟨_, rfl, wpAny_letOwnedTupleGo_zip (s := { s with heap := h' }) z' fun h'' z'' sb => ?_⟩
    have hT2 : h''.get? s.heap.objs.size = some { cls := .type "tuple", data := .seq #[u, u2] } := (sb.2 _ (Nat.ne_of_gt hzl)).trans hT
    have new : ObjOk X.prog X.w (upd H s.heap.objs.size (.tup [x, y])) h'' s.heap.objs.size (.tup [x, y]) :=
      ⟨by show 2 ≤ sizeLine; decide, [u, u2], .cons ru (.cons ru2 .nil), ⟨_, hT2, rfl, _, rfl⟩⟩
    have I1 : Inv X pins σ (upd H s.heap.objs.size (.tup [x, y])) { s with heap := h'' } :=
      I.turnedNew (t' := s.toks) (ch := [z, TI, TO, i1, i2]) (fun c o hb q => (sb.2 c (fun q' => hb (by simp [q']))).trans (hk c o (fun q' => hb (by simp [q'])) (fun q' => hb (by simp [q'])) (fun q' => hb (by simp [q'])) (fun q' => hb (by simp [q'])) q)) hf (Nat.le_refl _) new
    refine ⟨.ref s.heap.objs.size, _, I1, rfl, ⟨_, x, y, rfl, I.hok.fresh (Nat.le_refl _), rfl, fun l hl => by rw [I.list_inj hl hqx]; exact hx, fun l hl => by rw [I.list_inj hl hqy]; exact hy⟩, ⟨z'', ?_, ⟨u, u2, ?_⟩, ?_, ?_⟩, fun c hcm => ?_⟩
    · exact (sb.2 _ D.TIz).trans (hk _ _ D.TIz D.TITO D.TIi1 D.TIi2 hTI)
    · exact (sb.2 _ D.TOz).trans TO'
    · exact h1'.at fun o q => (sb.2 _ D.i1z).trans q
    · exact h2'.at fun o q => (sb.2 _ D.i2z).trans q
    · have hlt : c < s.heap.objs.size := by
        have e' : c = z ∨ c = TI ∨ c = TO ∨ c = i1 ∨ c = i2 := by simpa using hcm
        rcases e' with q | q | q | q | q
        · rw [q]; exact hzl
        · rw [q]; exact Heap.lt_size hTI
        · rw [q]; exact Heap.lt_size hTO
        · rw [q]; obtain ⟨_, e1, _⟩ := h1; exact Heap.lt_size e1
        · rw [q]; obtain ⟨_, e2, _⟩ := h2; exact Heap.lt_size e2
      rw [upd_ne (Nat.ne_of_lt hlt)]
      exact (hf c hcm).1
  done := by
    intro X hP hw hK hc i pins s σ H E I hf st hg
    subst hP hw hK
    obtain ⟨hz, hTI, ⟨x0, y0, hTO⟩, h1, h2⟩ := st
    obtain ⟨xs, ys, hqx, hqy, hend⟩ := hg
    obtain ⟨its, rv, p, _⟩ := I.list hqx
    obtain ⟨its2, rv2, p2, _⟩ := I.list hqy
    have l1 := rv.length
    have l2 := rv2.length
    have he : its.toArray[i]? = none ∨ its2.toArray[i]? = none := by
      rcases hend with q | q
      · exact .inl (by simp; omega)
      · exact .inr (by simp; omega)
    exact wpAny_pyNext_zip_end (I.ok.hd hc) D hz hTI hTO h1 h2 p.isList p2.isList he fun h' hk => ⟨rfl, I.turnedL (t' := s.toks) (ch := [z, TI, TO, i1, i2]) (fun c o hb q =>
      hk c o (fun q' => hb (by simp [q'])) (fun q' => hb (by simp [q'])) (fun q' => hb (by simp [q'])) (fun q' => hb (by simp [q'])) q) hf⟩
  self := fun A i s Q E st h => wpAny_pyIter_zip st.1 h
def iZip (K : PySem.W.Frag) (ta : TA) : TI := fun σ H R => ta σ H fun vs H1 => ∃ a b xs ys, vs = [.ref a, .ref b] ∧ SqL K H1 a xs ∧ SqL K H1 b ys ∧ R (Itz K a b) H1
theorem pi_zip {X : Cx} {e e2 : Expr} {ta : TA} {p pos tpos : Pos} {elts : List Expr} {kk : Nat} (hg : Gl X "zip") (hm : X.mg "zip" = none) (ha : PA X [e, e2] ta)
    (hs : starEach [e, e2] X.env = (false, eval e X.env) :: starEach [e2] X.env := by rfl) (hpl : (backTo pos (starEach [e2] X.env)).any (·.1) = false := by rfl) :
    PI X (.Tuple elts kk tpos) (.Call (.Name "zip" p) [e, e2] [] pos) (iZip X.K ta) := by
  intro pins s σ H R I h
  refine Call_ (ld_blt I hg hm boot_zip5 (PyProof.Rows.callWith_type1 (thn (ha pos pins s σ H _ I h) fun us s1 ⟨vs, H1, I1, r1, q1⟩ => ?_) hs hpl))
  obtain ⟨a, b, xs, ys, ex, hqx, hqy, q⟩ := q1
  subst ex
  cases r1 with
  | cons r rr =>
    cases rr with
    | cons r' rr =>
      cases rr
      cases r
      cases r'
      obtain ⟨its, rv, p1, _⟩ := I1.list hqx
      obtain ⟨its2, rv2, p2, _⟩ := I1.list hqy
      have la : a < s1.heap.objs.size := p1.lt
      have lb : b < s1.heap.objs.size := p2.lt
      refine call_zip_2 p1.isList p2.isList fun h' hz hTI hTO h1 h2 hsz hk => wpAny_pyIter_zip hz ?_
      have I2 : Inv X pins σ H1 { s1 with heap := h' } := I1.kept (t' := s1.toks) hk
      refine ⟨s1.heap.objs.size + 4, [s1.heap.objs.size + 4, s1.heap.objs.size + 2, s1.heap.objs.size + 3, s1.heap.objs.size, s1.heap.objs.size + 1], _, _, H1, rfl, I2, turn_zip (PySem.W.ktu_apart s1.heap.objs.size a b la lb), ⟨hz, hTI, ⟨_, _, hTO⟩, h1, h2⟩, fun c hcm => ?_, q⟩
      have e' : c = s1.heap.objs.size + 4 ∨ c = s1.heap.objs.size + 2 ∨ c = s1.heap.objs.size + 3 ∨ c = s1.heap.objs.size ∨ c = s1.heap.objs.size + 1 := by simpa using hcm
      have hle : s1.heap.objs.size ≤ c := by
        rcases e' with z | z | z | z | z
        · rw [z]; exact Nat.le_add_right _ _
        · rw [z]; exact Nat.le_add_right _ _
        · rw [z]; exact Nat.le_add_right _ _
        · rw [z]; exact Nat.le_refl _
        · rw [z]; exact Nat.le_add_right _ _
      exact I1.fpOk hle (I1.hok.fresh hle)
end L2
section 
namespace Bits
open PySem PyProof.Rows
end Bits
end 
section 
namespace TL
open PySem PySem.Builtin PySem.Builtin.Str PySem.StrLaws
abbrev tl (x : Str) : List Nat := x.cps.toList
def pre (S l : List Nat) : Bool := l.take S.length == S
def par (S : List Nat) : List Nat → List Nat → Option (List Nat × List Nat)
  | _, [] => none
  | acc, c :: r => if pre S (c :: r) = true then some (acc, (c :: r).drop S.length) else par S (acc ++ [c]) r
end TL
end 
namespace L2
open PySem PySem.Spec PyProof.Rows
section
variable {X : Cx} {pins : List (Addr × Obj)} {σ : St} {H : Hp} {s : Shared} {Q : VK}
end
section
variable {X : Cx}
end
section
variable {X : Cx} {o e : Expr} {to te : TE}
end
end L2
namespace L2
open PySem PySem.Spec PyProof.Rows
section
variable {X : Cx}
end
end L2
namespace Att
open PySem PySem.W PySem.Calls PyProof.Rows
section
variable {prog : Program} {w : World} {A : Around} {E : Value → Shared → Prop} {s : Shared} {K : Frag}
end
end Att
namespace L2
open PySem PySem.Spec PyProof.Rows
end L2
namespace L2
open PySem PySem.Spec PyProof.Rows
abbrev KOf {K : PySem.W.Frag} {h : Heap} (_ : K.In h) : PySem.W.Frag := K
end L2
namespace L2
open PySem PySem.Spec PyProof.Rows
def inClass (s : Stmt) (j : Nat) : Stmt := match s with
  | .ClassDef _ _ _ body _ _ _ _ _ _ _ => body.getD j (.Pass ⟨0, 0, 0, 0⟩)
  | _ => .Pass ⟨0, 0, 0, 0⟩
def defArgs (s : Stmt) : Arguments := match s with
  | .FunctionDef _ a _ _ _ _ _ _ _ _ => a
  | _ => { posonlyargs := [], args := [], vararg := none, kwonlyargs := [], kw_defaults := [], kwarg := none, defaults := [] }
def defBody (s : Stmt) : List Stmt := match s with
  | .FunctionDef _ _ b _ _ _ _ _ _ _ => b
  | _ => []
def defScope (s : Stmt) : Scope := match s with
  | .FunctionDef _ _ _ _ _ _ sc _ _ _ => sc
  | _ => { kind := .function, names := [], isGenerator := false, isCoroutine := false }
abbrev CX0 : CXT := fun _ _ _ _ _ _ => False
abbrev E0 : XK := fun _ _ _ => False
theorem pass0 {X : Cx} : Passes CX0 X E0 := fun _ _ _ _ _ _ _ h => h.elim
structure Fun (K : PySem.W.Frag) (x qual : Str) (st : Stmt) (f : Addr) (fd : FuncData) : Prop where
  ex : ∃ (oc : Value) (od : Option Addr) (kV doc pm : Value) (an : Option Addr) (cdv ct : Value) (osl : Array (Option Value)),
    fd = PySem.W.fnOf x qual (defArgs st) (defBody st) (defScope st) .none kV doc pm an cdv ct ∧ K.lookup f = some ⟨oc, od, .func fd, osl⟩ ∧ PySem.W.codeIn K cdv qual = true
  kp : PySem.W.keepIn K (.ref f) = true
section
variable {P : Program} {w : World} {K : PySem.W.Frag} {mg : Str → Option Value} {base : Heap}
theorem Fun.ok {x qual : Str} {st : Stmt} {f : Addr} {fd : FuncData} {N ps : List Str} {k : Nat} {sp : Sp} (F : Fun K x qual st f fd) (S : FnScope N ps (defScope st)) (len : ∀ vs H Q E, sp vs H Q E → vs.length = ps.length)
    (hbody : ∀ (cdv : Value) (A : Around) (outer : List Env) (s : Shared) (H : Hp) (vs : List V) (Q : VK) (E : XK), Room k (A.deeper (envOfC qual (defScope st) s.heap.objs.size f cdv)) → sp vs H Q E →
      ∃ t, PSs (cxOf CX0 P w K mg base N qual (defScope st) f cdv A outer s H E).nox (defBody st) t ∧ t { nx := fun _ H' => Q .non H', rt := Q } (start N vs) H) : FnOk P w K mg base CX0 (k + 1) f fd ps sp := by
  obtain ⟨oc, od, kV, doc, pm, an, cdv, ct, osl, rfl, lk, hcd⟩ := F.ex
  refine fn_of lk hcd S len fun A outer s H vs Q E hr hsp => ?_
  obtain ⟨t, h, q⟩ := hbody cdv A outer s H vs Q E hr hsp
  exact ⟨t, h.nox, q⟩
theorem Fun.binds {x qual : Str} {st : Stmt} {f : Addr} {fd : FuncData} {ps : List Str} (F : Fun K x qual st f fd)
    (h : ∀ (kV doc pm : Value) (an : Option Addr) (cdv ct : Value) (us : List Value), us.length = ps.length → bindArgs (PySem.W.fnOf x qual (defArgs st) (defBody st) (defScope st) .none kV doc pm an cdv ct) ⟨us, []⟩ = pure (ps.zip us)) : Binds K fd ps [] := by
  obtain ⟨oc, od, kV, doc, pm, an, cdv, ct, osl, rfl, lk, hcd⟩ := F.ex
  exact .all (h kV doc pm an cdv ct)
theorem fun_mk {x qual : Str} {st : Stmt} {f : Addr} {oc : Value} {od an : Option Addr} {osl : Array (Option Value)} {kV doc pm cdv ct : Value} (l : K.lookup f = some ⟨oc, od, .func (PySem.W.fnOf x qual (defArgs st) (defBody st) (defScope st) .none kV doc pm an cdv ct), osl⟩)
    (c : PySem.W.codeIn K cdv qual = true) (k : PySem.W.keepIn K (.ref f) = true) : Fun K x qual st f (PySem.W.fnOf x qual (defArgs st) (defBody st) (defScope st) .none kV doc pm an cdv ct) := ⟨⟨oc, od, kV, doc, pm, an, cdv, ct, osl, rfl, l, c⟩, k⟩
end
section
variable {X : Cx}
theorem pv (i : Nat) {x : Str} {pos : Pos} (hN : X.N[i]? = some x := by rfl) (hv : Vis X.env.scope x := by first | exact Or.inl rfl | exact Or.inr (Or.inl rfl) | exact Or.inr (Or.inr rfl)) (hd : (x == ("__debug__" : Str)) = false := by decide)
    (hcd : (x == ("__classdict__" : Str)) = false := by decide) : PE X (.Name x pos) (tVar i) := pe_var hN hv hd hcd
end
theorem iteF {A B : Prop} (h : B) : if false = true then A else B := by
  rw [if_neg Bool.false_ne_true]
  exact h
theorem iteT {A B : Prop} (h : A) : if true = true then A else B := by
  rw [if_pos rfl]
  exact h
theorem ite2 {c A B : Prop} [Decidable c] (h1 : c → A) (h2 : ¬ c → B) : if c then A else B := by
  by_cases h : c
  · rw [if_pos h]
    exact h1 h
  · rw [if_neg h]
    exact h2 h
def Same (H H' : Hp) : Prop := ∀ b o, H b = some o → H' b = some o
theorem Same.refl (H : Hp) : Same H H := fun _ _ h => h
theorem Same.trans {H H1 H2 : Hp} (a : Same H H1) (b : Same H1 H2) : Same H H2 := fun c o h => b c o (a c o h)
theorem Same.free {H H' : Hp} (e : Same H H') {l : Addr} (h : H' l = Option.none) : H l = Option.none := by
  cases q : H l with
  | none => rfl
  | some o =>
    rw [e l o q] at h
    cases h
theorem Same.seq {K : PySem.W.Frag} {H H' : Hp} {a : Addr} {xs : List V} (e : Same H H') (h : SqL K H a xs) : SqL K H' a xs := by
  rcases h with (h | ⟨o, h⟩) | h
  · exact .inl (.inl (e _ _ h))
  · exact .inl (.inr ⟨o, e _ _ h⟩)
  · exact .inr h
section
variable {κ : Type} [DecidableEq κ]
end
theorem at_of {xs : List V} {z : Int} {j : Nat} {v : V} (e : z = (j : Int)) (h : xs[j]? = some v) : atI xs z = some v := by
  rw [e]
  exact atI_nat h
theorem Same.made {H H1 : Hp} {x dx C : Addr} (nx : H x = Option.none) (nd : H dx = Option.none) (k : ∀ b o, (upd (upd H dx (.own x)) x (.ins C dx [])) b = some o → b ≠ x → H1 b = some o) : Same H H1 := fun b o e =>
  k b o (by rw [upd_ne (ne_of_none e nx), upd_ne (ne_of_none e nd)]; exact e) (ne_of_none e nx)
end L2
section
namespace L2
open PySem PySem.Spec PyProof.Rows
open PySem.W (WData Codec OpenSpec Well WellAll ReadsW ReadsAllW)
mutual
/-- x stands for the datum d, lists and tuples all the way -/
inductive Dw (K : PySem.W.Frag) (H : Hp) : V → WData → Prop
  | non : Dw K H .non .none
  | bl (b : Bool) : Dw K H (.bl b) (.bool b)
  | int (i : Int) : Dw K H (.int i) (.int i)
  | str (x : Str) : Dw K H (.str x) (.str x)
  | byt (b : Array UInt8) : Dw K H (.byt b) (.bytes b.toList)
  | lst {a : Addr} {xs : List V} {ds : List WData} : SqL K H a xs → DwAll K H xs ds → Dw K H (.ref a) (.list ds)
  | tup {a : Addr} {xs : List V} {ds : List WData} : SqT K H a xs → DwAll K H xs ds → Dw K H (.ref a) (.tuple ds)
inductive DwAll (K : PySem.W.Frag) (H : Hp) : List V → List WData → Prop
  | nil : DwAll K H [] []
  | cons {v : V} {vs : List V} {d : WData} {ds : List WData} : Dw K H v d → DwAll K H vs ds → DwAll K H (v :: vs) (d :: ds)
end
theorem dw_ints {K : PySem.W.Frag} {H : Hp} : ∀ ns : List Int, DwAll K H (ns.map V.int) (ns.map WData.int)
  | [] => .nil
  | n :: r => .cons (.int n) (dw_ints r)
theorem ints_dw {K : PySem.W.Frag} {H : Hp} : ∀ (ns : List Int) (xs : List V), DwAll K H xs (ns.map WData.int) → xs = ns.map V.int
  | [], xs, h => by
    cases h
    rfl
  | n :: r, xs, h => by
    cases h with
    | cons h1 h2 =>
      cases h1
      rw [ints_dw r _ h2] <;> rfl
section
variable {P : Program} {w : World} {K : PySem.W.Frag} {H : Hp} {h : Heap} {R : PySem.W.WRecords} {cl : Str → Option Addr}
theorem sqL_at {a : Addr} {xs : List V} (hok : HOk P w H h) (KX : K.In h) (q : SqL K H a xs) : ∃ (its : List Value) (o : Obj) (n : Nat), Vals xs its ∧ h.get? a = some o ∧ o.cls = .type "list" ∧ o.data = .seq its.toArray n := by
  rcases q with q | ⟨o, its, n, e, hc, _, hd, _, hv⟩
  · obtain ⟨_, its, n, hv, e⟩ := (show ObjOk P w H h a (.lst xs) from q.ok hok)
    exact ⟨its, _, n, hv, e, rfl, rfl⟩
  · exact ⟨its.toList, o, n, hv, KX _ _ e, hc, by simp [hd]⟩
theorem sqT_at {a : Addr} {xs : List V} (hok : HOk P w H h) (KX : K.In h) (q : SqT K H a xs) : ∃ (its : List Value) (o : Obj) (n : Nat), Vals xs its ∧ h.get? a = some o ∧ o.cls = .type "tuple" ∧ o.data = .seq its.toArray n := by
  rcases q with q | ⟨o, its, n, e, hc, hd, _, hv⟩
  · obtain ⟨_, its, hv, o, e, hc, n, hd⟩ := (show ObjOk P w H h a (.tup xs) from q.ok hok)
    exact ⟨its, o, n, hv, e, hc, hd⟩
  · exact ⟨its.toList, o, n, hv, KX _ _ e, hc, by simp [hd]⟩
mutual
theorem Dw.reads (hok : HOk P w H h) (KX : K.In h) : ∀ (d : WData) (v : V) (u : Value), Dw K H v d → RelV v u → ∃ as, ReadsW R cl h u d as
  | .none, _, _, x, r => by
    cases x
    cases r
    exact ⟨_, ReadsW.none⟩
  | .bool b, _, _, x, r => by
    cases x
    cases r
    exact ⟨_, ReadsW.bool b⟩
  | .int i, _, _, x, r => by
    cases x
    obtain ⟨t, rfl⟩ := r
    exact ⟨_, ReadsW.int i t⟩
  | .str s, _, _, x, r => by
    cases x
    obtain ⟨t, rfl⟩ := r
    exact ⟨_, ReadsW.str s t⟩
  | .bytes b, _, _, x, r => by
    cases x
    obtain ⟨t, rfl⟩ := r
    exact ⟨_, ReadsW.bytes _ t⟩
  | .list ds, _, _, x, r => by
    cases x with
    | lst hs ha =>
      cases r
      obtain ⟨its, o, n, rv, ho, hc, hd⟩ := sqL_at hok KX hs
      obtain ⟨as, hr⟩ := Dw.readsAll hok KX ds _ its ha rv
      exact ⟨_, ReadsW.list ho hc hd hr⟩
  | .tuple ds, _, _, x, r => by
    cases x with
    | tup hs ha =>
      cases r
      obtain ⟨its, o, n, rv, ho, hc, hd⟩ := sqT_at hok KX hs
      obtain ⟨as, hr⟩ := Dw.readsAll hok KX ds _ its ha rv
      exact ⟨_, ReadsW.tuple ho hc hd hr⟩
  | .float _, _, _, x, _ => by cases x
  | .dict _, _, _, x, _ => by cases x
  | .bytearray _, _, _, x, _ => by cases x
  | .set _, _, _, x, _ => by cases x
  | .frozenset _, _, _, x, _ => by cases x
  | .obj _ _, _, _, x, _ => by cases x
theorem Dw.readsAll (hok : HOk P w H h) (KX : K.In h) : ∀ (ds : List WData) (vs : List V) (us : List Value), DwAll K H vs ds → Vals vs us → ∃ as, ReadsAllW R cl h us ds as
  | [], _, _, x, r => by
    cases x
    cases r
    exact ⟨_, ReadsAllW.nil⟩
  | d :: ds, _, _, x, r => by
    cases x with
    | cons h1 h2 =>
      cases r with
      | cons r1 r2 =>
        obtain ⟨as, q1⟩ := Dw.reads hok KX d _ _ h1 r1
        obtain ⟨bs, q2⟩ := Dw.readsAll hok KX ds _ _ h2 r2
        exact ⟨_, ReadsAllW.cons q1 q2⟩
end
end
mutual
/-- data that a codec tells -/
def plW : WData → Bool
  | .none => true
  | .bool _ => true
  | .int _ => true
  | .str _ => true
  | .bytes _ => true
  | .list xs => plWs xs
  | .tuple xs => plWs xs
  | _ => false
def plWs : List WData → Bool
  | [] => true
  | x :: r => plW x && plWs r
end
theorem plWs_map {α : Type} {f : α → WData} (h : ∀ a, plW (f a) = true) : ∀ l : List α, plWs (l.map f) = true
  | [] => rfl
  | x :: r => by
    show (plW (f x) && plWs (r.map f)) = true
    rw [h x, plWs_map h r] <;> rfl
theorem pl_enc : ∀ (c : Codec) (a : c.denote), plW (c.enc a) = true
  | .unit, _ => rfl
  | .bool, _ => rfl
  | .int _ _, _ => rfl
  | .nat _ _, _ => rfl
  | .u8, _ => rfl
  | .bytes _ _, _ => rfl
  | .text _ _ _ _, _ => rfl
  | .list _ _ c, a => plWs_map (fun x => pl_enc c x) a
  | .pair c d, a => by
    show (plW (c.enc a.1) && (plW (d.enc a.2) && true)) = true
    rw [pl_enc c a.1, pl_enc d a.2] <;> rfl
  | .triple c d e, a => by
    show (plW (c.enc a.1) && (plW (d.enc a.2.1) && (plW (e.enc a.2.2) && true))) = true
    rw [pl_enc c a.1, pl_enc d a.2.1, pl_enc e a.2.2] <;> rfl
  | .option c, none => rfl
  | .option c, some x => pl_enc c x
theorem pl_encAll : ∀ (cs : List Codec) (a : Codec.denoteAll cs), plWs (Codec.encAll cs a) = true
  | [], _ => rfl
  | c :: cs, a => by
    show (plW (c.enc a.1) && plWs (Codec.encAll cs a.2)) = true
    rw [pl_enc c a.1, pl_encAll cs a.2] <;> rfl
theorem weight_mem : ∀ {xs : List WData} {d : WData}, d ∈ xs → d.weight ≤ WData.weightAll xs
  | [], d, h => absurd h (by simp)
  | x :: r, d, h => by
    show d.weight ≤ x.weight + 1 + WData.weightAll r
    rcases List.mem_cons.mp h with e | m
    · rw [e]
      omega
    · have z := weight_mem m
      omega
def toV : Value → V
  | .none => .non
  | .bool b => .bl b
  | .int i _ => .int i
  | .str x _ => .str x
  | .bytes b _ => .byt b
  | .ref a => .ref a
  | _ => .non
def OkU (A : List Addr) : Value → Prop
  | .none => True
  | .bool _ => True
  | .int _ _ => True
  | .str _ _ => True
  | .bytes _ _ => True
  | .ref a => a ∈ A
  | _ => False
theorem OkU.mono {A B : List Addr} (h : ∀ a ∈ A, a ∈ B) : ∀ {u : Value}, OkU A u → OkU B u := fun {u} x => by
  cases u with
  | ref a => exact h a x
  | none => trivial
  | bool b => trivial
  | int i t => trivial
  | str s t => trivial
  | bytes b t => trivial
  | _ => exact False.elim x
theorem relV_toV {A : List Addr} {u : Value} (x : OkU A u) : RelV (toV u) u := by
  cases u with
  | ref a => rfl
  | none => rfl
  | bool b => rfl
  | int i t => exact ⟨t, rfl⟩
  | str s t => exact ⟨t, rfl⟩
  | bytes b t => exact ⟨t, rfl⟩
  | _ => exact False.elim x
theorem vals_toV {A : List Addr} : ∀ {vs : List Value}, (∀ u ∈ vs, OkU A u) → Vals (vs.map toV) vs
  | [], _ => .nil
  | u :: r, h => .cons (relV_toV (h u (List.mem_cons_self ..))) (vals_toV fun x hx => h x (List.mem_cons_of_mem _ hx))
def ArgOb (h : Heap) (A : List Addr) (a : Addr) : Prop := ∃ vs : List Value, vs.length ≤ sizeLine ∧ (∀ u ∈ vs, OkU A u) ∧
  (h.get? a = some { cls := .type "list", data := .seq vs.toArray } ∨ h.get? a = some { cls := .type "tuple", data := .seq vs.toArray })
theorem ArgOb.mono {h : Heap} {A B : List Addr} {a : Addr} (k : ∀ a ∈ A, a ∈ B) (x : ArgOb h A a) : ArgOb h B a := by
  obtain ⟨vs, h1, h2, h3⟩ := x
  exact ⟨vs, h1, fun u hu => (h2 u hu).mono k, h3⟩
theorem wellAll_len {P : Params} {h : Heap} : ∀ {vs : List Value} {ds : List WData}, WellAll P h vs ds → vs.length = ds.length
  | _, _, .nil => rfl
  | _, _, .cons _ b => by
    show _ + 1 = _ + 1
    rw [wellAll_len b]
theorem well_list {P : Params} {h : Heap} {v : Value} {ds : List WData} (x : Well P h v (.list ds)) : ∃ (a : Addr) (vs : List Value), v = .ref a ∧ h.get? a = some { cls := .type "list", data := .seq vs.toArray } ∧ WellAll P h vs ds := by
  cases x with
  | list ho hall => exact ⟨_, _, rfl, ho, hall⟩
theorem well_tuple {P : Params} {h : Heap} {v : Value} {ds : List WData} (x : Well P h v (.tuple ds)) : ∃ (a : Addr) (vs : List Value), v = .ref a ∧ h.get? a = some { cls := .type "tuple", data := .seq vs.toArray } ∧ WellAll P h vs ds := by
  cases x with
  | tuple ho hall => exact ⟨_, _, rfl, ho, hall⟩
theorem well_cons {P : Params} {h : Heap} {us : List Value} {d : WData} {ds : List WData} (x : WellAll P h us (d :: ds)) : ∃ (v : Value) (vs : List Value), us = v :: vs ∧ Well P h v d ∧ WellAll P h vs ds := by
  cases x with
  | cons a b => exact ⟨_, _, rfl, a, b⟩
theorem line_of {n : Nat} (h : n ≤ 1048576) : n ≤ sizeLine := Nat.le_trans h (by decide)
section
variable {P : Params} {h : Heap}
mutual
theorem area_one : ∀ (d : WData) (v : Value), Well P h v d → plW d = true → d.weight ≤ 1048576 → ∃ A : List Addr, OkU A v ∧ ∀ a ∈ A, ArgOb h A a
  | .none, _, x, _, _ => by
    cases x
    exact ⟨[], trivial, fun a m => absurd m (by simp)⟩
  | .bool b, _, x, _, _ => by
    cases x
    exact ⟨[], trivial, fun a m => absurd m (by simp)⟩
  | .int i, _, x, _, _ => by
    cases x
    exact ⟨[], trivial, fun a m => absurd m (by simp)⟩
  | .str s, _, x, _, _ => by
    cases x
    exact ⟨[], trivial, fun a m => absurd m (by simp)⟩
  | .bytes b, _, x, _, _ => by
    cases x
    exact ⟨[], trivial, fun a m => absurd m (by simp)⟩
  | .list ds, _, x, p, z => by
    obtain ⟨a, vs, rfl, ho, hall⟩ := well_list x
    have z2 : WData.weightAll ds ≤ 1048576 := z
    obtain ⟨A, h1, h2⟩ := area_all ds _ hall p fun d hd => Nat.le_trans (weight_mem hd) z2
    have k : ∀ b ∈ A, b ∈ a :: A := fun b hb => List.mem_cons_of_mem _ hb
    refine ⟨a :: A, List.mem_cons_self .., fun b hb => ?_⟩
    rcases List.mem_cons.mp hb with e | m
    · rw [e]
      exact ⟨vs, line_of (by rw [wellAll_len hall]; exact Nat.le_trans (PySem.W.length_le_weightAllW ds) z2), fun u hu => (h1 u hu).mono k, .inl ho⟩
    · exact (h2 b m).mono k
  | .tuple ds, _, x, p, z => by
    obtain ⟨a, vs, rfl, ho, hall⟩ := well_tuple x
    have z2 : WData.weightAll ds ≤ 1048576 := z
    obtain ⟨A, h1, h2⟩ := area_all ds _ hall p fun d hd => Nat.le_trans (weight_mem hd) z2
    have k : ∀ b ∈ A, b ∈ a :: A := fun b hb => List.mem_cons_of_mem _ hb
    refine ⟨a :: A, List.mem_cons_self .., fun b hb => ?_⟩
    rcases List.mem_cons.mp hb with e | m
    · rw [e]
      exact ⟨vs, line_of (by rw [wellAll_len hall]; exact Nat.le_trans (PySem.W.length_le_weightAllW ds) z2), fun u hu => (h1 u hu).mono k, .inr ho⟩
    · exact (h2 b m).mono k
  | .float _, _, _, p, _ => Bool.noConfusion (show false = true from p)
  | .dict _, _, _, p, _ => Bool.noConfusion (show false = true from p)
  | .bytearray _, _, _, p, _ => Bool.noConfusion (show false = true from p)
  | .set _, _, _, p, _ => Bool.noConfusion (show false = true from p)
  | .frozenset _, _, _, p, _ => Bool.noConfusion (show false = true from p)
  | .obj _ _, _, _, p, _ => Bool.noConfusion (show false = true from p)
theorem area_all : ∀ (ds : List WData) (vs : List Value), WellAll P h vs ds → plWs ds = true → (∀ d ∈ ds, d.weight ≤ 1048576) → ∃ A : List Addr, (∀ u ∈ vs, OkU A u) ∧ ∀ a ∈ A, ArgOb h A a
  | [], _, x, _, _ => by
    cases x
    exact ⟨[], fun u m => absurd m (by simp), fun a m => absurd m (by simp)⟩
  | d :: ds, _, x, p, z => by
    obtain ⟨v, vs, rfl, x1, x2⟩ := well_cons x
    have q : plW d = true ∧ plWs ds = true := Bool.and_eq_true_iff.mp p
    obtain ⟨A, a1, a2⟩ := area_one d v x1 q.1 (z d (List.mem_cons_self ..))
    obtain ⟨B, b1, b2⟩ := area_all ds vs x2 q.2 fun e he => z e (List.mem_cons_of_mem _ he)
    have kA : ∀ b ∈ A, b ∈ A ++ B := fun b hb => List.mem_append.mpr (.inl hb)
    have kB : ∀ b ∈ B, b ∈ A ++ B := fun b hb => List.mem_append.mpr (.inr hb)
    refine ⟨A ++ B, fun u hu => ?_, fun b hb => ?_⟩
    · rcases List.mem_cons.mp hu with e | m
      · rw [e]
        exact a1.mono kA
      · exact (b1 u m).mono kB
    · rcases List.mem_append.mp hb with m | m
      · exact (a2 b m).mono kA
      · exact (b2 b m).mono kB
end
end
def hoOf (o : Obj) : Option HO := match o.data with
  | .seq vs _ => if (o.cls == Value.type "list") = true then some (.frz o (.lst (vs.toList.map toV))) else some (.frz o (.tup (vs.toList.map toV)))
  | _ => none
def argH (K : PySem.W.Frag) (h : Heap) (A : List Addr) : Hp := fun b => if b ∈ A then (if (K.lookup b).isNone = true then (h.get? b).bind hoOf else none) else none
def OnlyF (H : Hp) : Prop := ∀ b, H b = none ∨ ∃ o u, H b = some (.frz o u)
theorem hoOf_lst (vs : List Value) : hoOf { cls := .type "list", data := .seq vs.toArray } = some (.frz { cls := .type "list", data := .seq vs.toArray } (.lst (vs.map toV))) := by
  show (if (Value.type "list" == Value.type "list") = true then some (HO.frz { cls := .type "list", data := .seq vs.toArray } (.lst (vs.toArray.toList.map toV))) else some (HO.frz { cls := .type "list", data := .seq vs.toArray } (.tup (vs.toArray.toList.map toV)))) = _
  rw [if_pos (beq_self_eq_true _)]
theorem hoOf_tup (vs : List Value) : hoOf { cls := .type "tuple", data := .seq vs.toArray } = some (.frz { cls := .type "tuple", data := .seq vs.toArray } (.tup (vs.map toV))) := by
  show (if (Value.type "tuple" == Value.type "list") = true then some (HO.frz { cls := .type "tuple", data := .seq vs.toArray } (.lst (vs.toArray.toList.map toV))) else some (HO.frz { cls := .type "tuple", data := .seq vs.toArray } (.tup (vs.toArray.toList.map toV)))) = _
  rw [if_neg (by decide)]
section
variable {P : Program} {w : World} {K : PySem.W.Frag} {h : Heap} {A : List Addr}
theorem argH_at {b : Addr} {o : Obj} (hb : b ∈ A) (hk : K.lookup b = none) (e : h.get? b = some o) : argH K h A b = hoOf o := by
  unfold argH
  rw [if_pos hb, hk, if_pos (show (none : Option Obj).isNone = true from rfl), e] <;> rfl
theorem of_argH {b : Addr} {u : HO} (q : argH K h A b = some u) : b ∈ A ∧ K.lookup b = none := by
  unfold argH at q
  by_cases hb : b ∈ A
  · rw [if_pos hb] at q
    cases hk : K.lookup b with
    | none => exact ⟨hb, rfl⟩
    | some o =>
      rw [hk, if_neg (by simp)] at q
      cases q
  · rw [if_neg hb] at q
    cases q
theorem argH_is (ar : ∀ a ∈ A, ArgOb h A a) {b : Addr} {u : HO} (q : argH K h A b = some u) : K.lookup b = none ∧ ∃ vs : List Value, vs.length ≤ sizeLine ∧ (∀ u ∈ vs, OkU A u) ∧
    ((h.get? b = some { cls := .type "list", data := .seq vs.toArray } ∧ u = .frz { cls := .type "list", data := .seq vs.toArray } (.lst (vs.map toV))) ∨
     (h.get? b = some { cls := .type "tuple", data := .seq vs.toArray } ∧ u = .frz { cls := .type "tuple", data := .seq vs.toArray } (.tup (vs.map toV)))) := by
  obtain ⟨hb, hk⟩ := of_argH q
  obtain ⟨vs, h1, h2, h3⟩ := ar b hb
  refine ⟨hk, vs, h1, h2, ?_⟩
  rcases h3 with e | e
  · rw [argH_at hb hk e, hoOf_lst] at q
    exact .inl ⟨e, (Option.some.inj q).symm⟩
  · rw [argH_at hb hk e, hoOf_tup] at q
    exact .inr ⟨e, (Option.some.inj q).symm⟩
theorem argH_only (ar : ∀ a ∈ A, ArgOb h A a) : OnlyF (argH K h A) := fun b => by
  cases q : argH K h A b with
  | none => exact .inl rfl
  | some u =>
    obtain ⟨_, vs, _, _, ⟨_, e⟩ | ⟨_, e⟩⟩ := argH_is ar q
    · exact .inr ⟨_, _, by rw [e]⟩
    · exact .inr ⟨_, _, by rw [e]⟩
theorem argH_ok (ar : ∀ a ∈ A, ArgOb h A a) : HOk P w (argH K h A) h := fun b u q => by
  obtain ⟨_, vs, h1, h2, ⟨e, rfl⟩ | ⟨e, rfl⟩⟩ := argH_is ar q
  · exact ⟨e, by rw [List.length_map]; exact h1, vs, _, vals_toV h2, e⟩
  · exact ⟨e, by rw [List.length_map]; exact h1, vs, vals_toV h2, _, e, rfl, _, rfl⟩
theorem seq_inj {c c' : Value} {vs us : List Value} (e : (some { cls := c, data := .seq vs.toArray } : Option Obj) = some { cls := c', data := .seq us.toArray }) : c = c' ∧ vs = us := by
  have e1 := Option.some.inj e
  have e2 : c = c' := congrArg Obj.cls e1
  have e3 : Data.seq vs.toArray = Data.seq us.toArray := congrArg Obj.data e1
  injection e3 with e4
  refine ⟨e2, ?_⟩
  have e5 := congrArg Array.toList e4
  simpa using e5
theorem argL (KX : K.In h) (ar : ∀ a ∈ A, ArgOb h A a) {a : Addr} {vs : List Value} (ha : a ∈ A) (e : h.get? a = some { cls := .type "list", data := .seq vs.toArray }) : (∀ u ∈ vs, OkU A u) ∧ SqL K (argH K h A) a (vs.map toV) := by
  obtain ⟨us, h1, h2, h3⟩ := ar a ha
  have hu : us = vs := by
    rcases h3 with q | q
    · rw [e] at q
      exact (seq_inj q).2.symm
    · rw [e] at q
      exact absurd (Value.type.inj (seq_inj q).1) (by decide)
  subst hu
  refine ⟨h2, ?_⟩
  cases hk : K.lookup a with
  | none => exact .inl (.inr ⟨_, by rw [argH_at ha hk e, hoOf_lst]⟩)
  | some o =>
    have e2 := KX a o hk
    rw [e] at e2
    obtain rfl := Option.some.inj e2
    exact .inr ⟨_, us.toArray, _, hk, rfl, rfl, rfl, by rw [List.size_toArray]; exact h1, by simpa using vals_toV h2⟩
theorem argT (KX : K.In h) (ar : ∀ a ∈ A, ArgOb h A a) {a : Addr} {vs : List Value} (ha : a ∈ A) (e : h.get? a = some { cls := .type "tuple", data := .seq vs.toArray }) : (∀ u ∈ vs, OkU A u) ∧ SqT K (argH K h A) a (vs.map toV) := by
  obtain ⟨us, h1, h2, h3⟩ := ar a ha
  have hu : us = vs := by
    rcases h3 with q | q
    · rw [e] at q
      exact absurd (Value.type.inj (seq_inj q).1) (by decide)
    · rw [e] at q
      exact (seq_inj q).2.symm
  subst hu
  refine ⟨h2, ?_⟩
  cases hk : K.lookup a with
  | none => exact .inl (.inr ⟨_, by rw [argH_at ha hk e, hoOf_tup]⟩)
  | some o =>
    have e2 := KX a o hk
    rw [e] at e2
    obtain rfl := Option.some.inj e2
    exact .inr ⟨_, us.toArray, _, hk, rfl, rfl, by rw [List.size_toArray]; exact h1, by simpa using vals_toV h2⟩
mutual
theorem dw_one {Pm : Params} (KX : K.In h) (ar : ∀ a ∈ A, ArgOb h A a) : ∀ (d : WData) (v : Value), Well Pm h v d → plW d = true → OkU A v → Dw K (argH K h A) (toV v) d
  | .none, _, x, _, _ => by
    cases x
    exact .non
  | .bool b, _, x, _, _ => by
    cases x
    exact .bl b
  | .int i, _, x, _, _ => by
    cases x
    exact .int i
  | .str s, _, x, _, _ => by
    cases x
    exact .str s
  | .bytes b, _, x, _, _ => by
    cases x
    have z := Dw.byt (K := K) (H := argH K h A) b.toArray
    exact z
  | .list ds, _, x, p, hu => by
    obtain ⟨a, vs, rfl, ho, hall⟩ := well_list x
    obtain ⟨h2, hs⟩ := argL KX ar hu ho
    exact .lst hs (dw_all KX ar ds _ hall p h2)
  | .tuple ds, _, x, p, hu => by
    obtain ⟨a, vs, rfl, ho, hall⟩ := well_tuple x
    obtain ⟨h2, hs⟩ := argT KX ar hu ho
    exact .tup hs (dw_all KX ar ds _ hall p h2)
  | .float _, _, _, p, _ => Bool.noConfusion (show false = true from p)
  | .dict _, _, _, p, _ => Bool.noConfusion (show false = true from p)
  | .bytearray _, _, _, p, _ => Bool.noConfusion (show false = true from p)
  | .set _, _, _, p, _ => Bool.noConfusion (show false = true from p)
  | .frozenset _, _, _, p, _ => Bool.noConfusion (show false = true from p)
  | .obj _ _, _, _, p, _ => Bool.noConfusion (show false = true from p)
theorem dw_all {Pm : Params} (KX : K.In h) (ar : ∀ a ∈ A, ArgOb h A a) : ∀ (ds : List WData) (vs : List Value), WellAll Pm h vs ds → plWs ds = true → (∀ u ∈ vs, OkU A u) → DwAll K (argH K h A) (vs.map toV) ds
  | [], _, x, _, _ => by
    cases x
    exact .nil
  | d :: ds, _, x, p, hu => by
    obtain ⟨v, vs, rfl, x1, x2⟩ := well_cons x
    have q : plW d = true ∧ plWs ds = true := Bool.and_eq_true_iff.mp p
    exact .cons (dw_one KX ar d v x1 q.1 (hu _ (List.mem_cons_self ..))) (dw_all KX ar ds vs x2 q.2 fun u m => hu u (List.mem_cons_of_mem _ m))
end
end
theorem spec_call {P : Program} {w : World} {K : PySem.W.Frag} {mg mb : Str → Option Value} {CX : CXT} {k : Nat} {fa : Addr} {fd : FuncData} {ps : List Str} {sp : Sp} {s₁ : Shared} {vals : List Value} {ds : List WData} {R : PySem.W.WRecords} {cl : Str → Option Addr} {d0 : WData}
    (KX : K.In s₁.heap) (hns : s₁.heap.Ns mainGlobals mg) (hb : s₁.heap.Ns builtinsNs mb) (hbb : ∀ x : Str, x ≠ "__name__" → mb x = bootBuiltins x) (hlim : s₁.heap.NoLimit) (hg : s₁.gens = #[])
    (hwl : WellAll w.params s₁.heap vals ds) (hpl : plWs ds = true) (hwt : ∀ d ∈ ds, d.weight ≤ 1048576) (hr : Room k callerA)
    (F : ∀ base : Heap, K.In base → base.Ns mainGlobals mg → FnOk P w K mg base CX k fa fd ps sp) (hbind : ∀ (s : Shared) (us : List Value), us.length = ps.length → BindsTo s fd ⟨us, []⟩ (ps.zip us)) (hlen : ds.length = ps.length)
    (hsp : ∀ (H : Hp) (xs : List V), OnlyF H → DwAll K H xs ds → sp xs H (fun v H' => Dw K H' v d0) fun _ _ _ => False)
    (hCX : ∀ H e s', CX [] H s₁ (fun _ _ _ => False) e s' → False) :
    codeAny (model P w) callerA (.call (.ref fa) ⟨vals, []⟩) (fun r s' => ∃ u as, r = .ok (.ret u) ∧ ReadsW R cl s'.heap u d0 as ∧ OldK s₁.heap s'.heap ∧ s'.os = s₁.os ∧ AllBare s'.gens) s₁ := by
  obtain ⟨A, ho, ar⟩ := area_all ds vals hwl hpl hwt
  have hO : OnlyF (argH K s₁.heap A) := argH_only ar
  have hok : HOk P w (argH K s₁.heap A) s₁.heap := argH_ok ar
  have hS := dw_all KX ar ds vals hwl hpl ho
  have hV := vals_toV ho
  have hK : ∀ b u, argH K s₁.heap A b = some u → K.lookup b = none := fun b u q => (argH_is ar q).1
  have noA : ∀ {b : Addr} {o : Obj} {es : Array DictEntry} {ep : Nat}, s₁.heap.get? b = some o → o.data = .dict es ep → argH K s₁.heap A b = none := fun {b o es ep} e d => by
    cases q : argH K s₁.heap A b with
    | none => rfl
    | some u =>
      obtain ⟨_, vs, _, _, ⟨e2, _⟩ | ⟨e2, _⟩⟩ := argH_is ar q
      · rw [e2] at e
        cases e
        have d' : Data.seq vs.toArray _ = Data.dict es ep := d
        cases d'
      · rw [e2] at e
        cases e
        have d' : Data.seq vs.toArray _ = Data.dict es ep := d
        cases d'
  generalize argH K s₁.heap A = H at hO hok hS hK noA
  have base_of : ∀ {b : Addr} {o : Obj}, s₁.heap.get? b = some o → H b = none → (hidT s₁.heap H).get? b = some o := fun e n => hidT_get e n
  have nsK : ∀ {b : Addr} {m : Str → Option Value}, s₁.heap.Ns b m → (hidT s₁.heap H).Ns b m := fun {b m} ⟨o, es, ep, e, d, r⟩ => ⟨o, es, ep, base_of e (noA e d), d, r⟩
  have nK : ∀ b o, K.lookup b = some o → H b = none := fun b o e => by
    cases q : H b with
    | none => rfl
    | some u =>
      rw [hK b u q] at e
      cases e
  have hKb : K.In (hidT s₁.heap H) := fun b o e => base_of (KX b o e) (nK b o e)
  have hM : Mod K mg (hidT s₁.heap H) := ⟨hKb, nsK hns, ⟨mb, nsK hb, hbb⟩, let ⟨mc, h1, h2⟩ := hlim; ⟨mc, nsK h1, h2⟩⟩
  have e0 : Env0 P w K mg (hidT s₁.heap H) callerA [] s₁ H := ⟨rfl, hM, fun b o e => of_hidT e, Nat.le_of_eq (hidT_size _ _), trivial, fun b hb => absurd (show b ∈ ([] : List Addr) from hb) (by simp), hok, .of_eq hg⟩
  have hl : vals.length = ps.length := by rw [wellAll_len hwl]; exact hlen
  refine codeAny_mono ((F _ hKb (nsK hns)).run callerA [] s₁ H ⟨vals, []⟩ vals (vals.map toV) _ _ hr e0 (hbind s₁ vals hl) hV (hsp H _ hO hS)) fun r s' x => ?_
  cases r with
  | error e => exact (hCX H e s' x).elim
  | ok fl =>
    cases fl with
    | next => exact False.elim x
    | brk => exact False.elim x
    | cont => exact False.elim x
    | ret u =>
      obtain ⟨v, H', os, bare, un, hok', r', q⟩ := x
      have kept : ∀ b o, s₁.heap.get? b = some o → s'.heap.get? b = some o := fun b o e => by
        cases q2 : H b with
        | none => exact un.keep b o e q2 (by intro z; exact absurd (show b ∈ ([] : List Addr) from z) (by simp)) (by simp)
        | some u2 =>
          rcases hO b with z | ⟨ob, u3, z⟩
          · rw [q2] at z
            cases z
          · have z2 := un.frzs b ob _ z
            obtain ⟨e1, _⟩ := hok b _ z
            obtain ⟨e2, _⟩ := hok' b _ z2
            rw [e] at e1
            cases e1
            exact e2
      have KX' : K.In s'.heap := fun b o e => kept b o (KX b o e)
      obtain ⟨as, hrd⟩ := Dw.reads (R := R) (cl := cl) hok' KX' d0 v u q r'
      exact ⟨u, as, rfl, hrd, OldK.of_keep kept, os, bare⟩
theorem layable_weight {ds : List WData} (h : WData.layableAll ds = true) : ∀ d ∈ ds, d.weight ≤ 1048576 := fun d hd =>
  (PySem.W.layableW_iff.mp (List.all_eq_true.mp h d hd)).2.2
theorem encAll_len : ∀ (cs : List Codec) (a : Codec.denoteAll cs), (Codec.encAll cs a).length = cs.length
  | [], _ => rfl
  | c :: cs, a => by
    show (Codec.encAll cs a.2).length + 1 = cs.length + 1
    rw [encAll_len cs a.2]
theorem walk_spec {r : OpenSpec} {k : Nat} {q : Program} {loose : List Str} {XP : (Str → Option Value) → Heap → Prop} {YP : World → Heap → Prop} {d : DefRec} {K : Params → PySem.W.Frag} {CX : World → CXT} {ps : List Str} {sp : World → Sp}
    (hwell : r.wellSaid = true) (hdf : d.params.defaults = []) (hlen : r.args.length = ps.length) (hr : Room k callerA)
    (hY : ∀ (w : World) (h : Heap), YP w h → (K w.params).In h)
    (F : ∀ (w : World) (mg : Str → Option Value) (fa : Addr) (h : Heap), YP w h → (K w.params).In h → h.Ns mainGlobals mg → mg d.name = some (.ref fa) →
      ∃ fd : FuncData, (∀ (s : Shared) (us : List Value), us.length = ps.length → BindsTo s fd ⟨us, []⟩ (ps.zip us)) ∧
        ∀ base : Heap, (K w.params).In base → base.Ns mainGlobals mg → FnOk r.prog w (K w.params) mg base (CX w) k fa fd ps (sp w))
    (hsp : ∀ (w : World) (H : Hp) (xs : List V) (a : Codec.denoteAll r.args), OnlyF H → Codec.withinAll r.args a = true → Codec.app r.args r.asked a = true → DwAll (K w.params) H xs (Codec.encAll r.args a) →
      sp w xs H (fun v H' => Dw (K w.params) H' v (r.ret.enc (Codec.app r.args r.f a))) fun _ _ _ => False)
    (hCX : ∀ (w : World) (H : Hp) (s : Shared) (e : Value) (s' : Shared), CX w [] H s (fun _ _ _ => False) e s' → False) :
    PySem.W.WalkOS q loose XP YP r d [] (fun f vs => PySem.call f vs) := by
  intro w s_0 s₁ mg mb G Y fa o pm cd doc dV kV ho hd hcd hD hmg hg args vals as hpre hlay hrd hwl hlo
  obtain ⟨a, e1, e2⟩ := PySem.W.os_pre_some hpre
  obtain ⟨e3, hwi⟩ := Codec.encAll_of_decAll r.args args a e1
  subst e3
  have KX := hY w _ Y
  obtain ⟨fd, hb, hF⟩ := F w mg fa _ Y KX G.T.g hmg
  refine PySem.W.enter_call (codeAny_mono (spec_call (R := []) (cl := classAt s_0.heap) (d0 := r.ret.enc (Codec.app r.args r.f a)) KX G.T.g G.T.b G.T.builtins G.T.nolimit hg hwl (pl_encAll _ _) (layable_weight hlay) hr hF hb (by rw [encAll_len]; exact hlen)
    (fun H xs hO hS => hsp w H xs a hO hwi e2 hS) fun H e s' => hCX w H s₁ e s') fun r' s' hq => ?_)
  obtain ⟨u, as', rfl, h1, h2, h3, h4⟩ := hq
  exact ⟨.inl ⟨u, _, as', rfl, fun _ => rfl, h1, (OpenSpec.post_iff hwell hwi _ _).mpr rfl, fun z => Bool.noConfusion (show false = true from z)⟩, h2, h3, h4⟩
theorem walk_specK {r : OpenSpec} {k : Nat} {q : Program} {loose : List Str} {XP : (Str → Option Value) → Heap → Prop} {YP : World → Heap → Prop} {d : DefRec} {K : Params → PySem.W.Frag} {CX : CXT} {ps : List Str} {sp : PySem.W.Frag → Sp}
    (hwell : r.wellSaid = true) (hdf : d.params.defaults = []) (hlen : r.args.length = ps.length) (hr : Room k callerA)
    (hY : ∀ (w : World) (h : Heap), YP w h → (K w.params).In h)
    (F : ∀ (w : World) (mg : Str → Option Value) (fa : Addr) (h : Heap), YP w h → (K w.params).In h → h.Ns mainGlobals mg → mg d.name = some (.ref fa) →
      ∃ fd : FuncData, (∀ (s : Shared) (us : List Value), us.length = ps.length → BindsTo s fd ⟨us, []⟩ (ps.zip us)) ∧
        ∀ base : Heap, (K w.params).In base → base.Ns mainGlobals mg → FnOk r.prog w (K w.params) mg base CX k fa fd ps (sp (K w.params)))
    (hsp : ∀ (K : PySem.W.Frag) (H : Hp) (xs : List V) (a : Codec.denoteAll r.args), OnlyF H → Codec.withinAll r.args a = true → Codec.app r.args r.asked a = true → DwAll K H xs (Codec.encAll r.args a) →
      sp K xs H (fun v H' => Dw K H' v (r.ret.enc (Codec.app r.args r.f a))) fun _ _ _ => False)
    (hCX : ∀ (H : Hp) (s : Shared) (e : Value) (s' : Shared), CX [] H s (fun _ _ _ => False) e s' → False) :
    PySem.W.WalkOS q loose XP YP r d [] (fun f vs => PySem.call f vs) :=
  walk_spec (K := K) (CX := fun _ => CX) (sp := fun w => sp (K w.params)) hwell hdf hlen hr hY F (fun w H xs a h1 h2 h3 h4 => hsp (K w.params) H xs a h1 h2 h3 h4) fun _ H s e s' => hCX H s e s'
end L2
end


end
section
set_option linter.all false
namespace Mth
open Kri4 (times turned turnedSet has detSet sure code val term inversions orders permsOf above below)
def grown (s : Nat) (taken : List Nat) (q acts : Nat) : Nat :=
  if (taken.filter fun e => decide (q < e)).length % 2 = 1 then turned (times s acts) else times s acts
def ext (b : List Nat × Nat) (row : List Nat) : List (List Nat × Nat) :=
  row.zipIdx.flatMap fun x => if x.1 ≠ 1 ∧ x.2 ∉ b.1 then [(b.1 ++ [x.2], grown b.2 b.1 x.2 x.1)] else []
def stepRow (begun : List (List Nat × Nat)) (row : List Nat) : List (List Nat × Nat) := begun.flatMap fun b => ext b row
def begunOf (table : List (List Nat)) : List (List Nat × Nat) := table.foldl stepRow [([], 2)]
def termSigns (table : List (List Nat)) : List Nat := (begunOf table).map (·.2)
def detM (table : List (List Nat)) : Nat :=
  if 2 ∈ termSigns table ∧ 0 ∈ termSigns table then 7 else if 2 ∈ termSigns table then 4 else if 0 ∈ termSigns table then 1 else 2
def at2 (table : List (List Nat)) (i j : Nat) : Nat := (table.getD i []).getD j 1
theorem sgn3 {s : Nat} (h : s ≤ 2) : s = 0 ∨ s = 1 ∨ s = 2 := by omega
theorem times_le (a b : Nat) : times a b ≤ 2 := by
  unfold times code; split
  · omega
  · split <;> omega
theorem turned_le (a : Nat) : turned a ≤ 2 := by unfold turned; omega
theorem inversions_snoc : ∀ (p : List Nat) (q : Nat), inversions (p ++ [q]) = inversions p + (p.filter fun e => decide (q < e)).length
  | [], q => by simp [inversions]
  | x :: p, q => by
    have ih := inversions_snoc p q
    simp only [List.cons_append, inversions, List.filter_append, List.length_append, ih]
    by_cases h : q < x
    · simp [h]; omega
    · simp [h]; omega
def prodT (t : Nat → Nat → Nat) (p : List Nat) : Nat := (p.zipIdx.map fun x => t x.2 x.1).foldl times 2
theorem prodT_snoc (t : Nat → Nat → Nat) (p : List Nat) (q : Nat) : prodT t (p ++ [q]) = times (prodT t p) (t p.length q) := by
  unfold prodT
  rw [List.zipIdx_append]
  simp
theorem foldl_times_le : ∀ (l : List Nat) (a : Nat), a ≤ 2 → l.foldl times a ≤ 2
  | [], a, h => h
  | x :: l, a, _ => foldl_times_le l _ (times_le a x)
theorem prodT_le (t : Nat → Nat → Nat) (p : List Nat) : prodT t p ≤ 2 := foldl_times_le _ _ (Nat.le_refl 2)
theorem term_eq (t : Nat → Nat → Nat) (p : List Nat) : term t p = if inversions p % 2 = 1 then turned (prodT t p) else prodT t p := rfl
theorem times_turned {a b : Nat} (ha : a ≤ 2) (hb : b ≤ 2) : times (turned a) b = turned (times a b) := by
  rcases sgn3 ha with rfl | rfl | rfl <;> rcases sgn3 hb with rfl | rfl | rfl <;> decide
theorem turned_turned {a : Nat} (ha : a ≤ 2) : turned (turned a) = a := by
  rcases sgn3 ha with rfl | rfl | rfl <;> decide
theorem term_snoc (t : Nat → Nat → Nat) (p : List Nat) (q : Nat) (hq : t p.length q ≤ 2) : term t (p ++ [q]) = grown (term t p) p q (t p.length q) := by
  rw [term_eq, term_eq, inversions_snoc, prodT_snoc]
  have h1 := prodT_le t p
  unfold grown
  generalize inversions p = a at *
  generalize (p.filter fun e => decide (q < e)).length = b at *
  rcases Nat.mod_two_eq_zero_or_one a with ea | ea <;> rcases Nat.mod_two_eq_zero_or_one b with eb | eb
  · have e : (a + b) % 2 = 0 := by omega
    simp [e, ea, eb]
  · have e : (a + b) % 2 = 1 := by omega
    simp [e, ea, eb]
  · have e : (a + b) % 2 = 1 := by omega
    simp [e, ea, eb, times_turned h1 hq]
  · have e : (a + b) % 2 = 0 := by omega
    simp [e, ea, eb, times_turned h1 hq, turned_turned (times_le _ _)]
structure Begun (t : Nat → Nat → Nat) (n k : Nat) (p : List Nat) : Prop where
  len : p.length = k
  nd : p.Nodup
  lt : ∀ x ∈ p, x < n
  acts : ∀ (i : Nat) (x : Nat), p[i]? = some x → t i x ≠ 1
theorem mem_ext {b : List Nat × Nat} {row : List Nat} {c : List Nat × Nat} : c ∈ ext b row ↔ ∃ (q a : Nat), row[q]? = some a ∧ a ≠ 1 ∧ q ∉ b.1 ∧ c = (b.1 ++ [q], grown b.2 b.1 q a) := by
  unfold ext
  rw [List.mem_flatMap]
  constructor
  · rintro ⟨⟨a, q⟩, hx, hc⟩
    rw [List.mem_zipIdx_iff_getElem?] at hx
    by_cases h : a ≠ 1 ∧ q ∉ b.1
    · rw [if_pos h] at hc
      exact ⟨q, a, hx, h.1, h.2, List.mem_singleton.mp hc⟩
    · rw [if_neg h] at hc
      cases hc
  · rintro ⟨q, a, hx, h1, h2, rfl⟩
    refine ⟨(a, q), List.mem_zipIdx_iff_getElem?.mpr hx, ?_⟩
    rw [if_pos ⟨h1, h2⟩]
    exact List.mem_singleton.mpr rfl
theorem begun_iff (T : List (List Nat)) (n : Nat) (hT : ∀ r ∈ T, r.length = n ∧ ∀ x ∈ r, x ≤ 2) :
    ∀ (k : Nat), k ≤ T.length → ∀ c : List Nat × Nat, c ∈ begunOf (T.take k) ↔ Begun (at2 T) n k c.1 ∧ c.2 = term (at2 T) c.1
  | 0, _, c => by
    show c ∈ [([], 2)] ↔ _
    rw [List.mem_singleton]
    constructor
    · rintro rfl
      exact ⟨⟨rfl, List.nodup_nil, fun x h => (by cases h), fun i x h => (by simp at h)⟩, rfl⟩
    · rintro ⟨h, e⟩
      obtain ⟨p, s⟩ := c
      have : p = [] := List.length_eq_zero_iff.mp h.len
      subst this
      have e : s = 2 := e
      rw [e]
  | k + 1, hk, c => by
    have hk' : k < T.length := hk
    have ih := begun_iff T n hT k (Nat.le_of_lt hk')
    have et : T.take (k + 1) = T.take k ++ [T[k]] := by rw [List.take_succ_eq_append_getElem hk']
    have hrow := hT T[k] (List.getElem_mem hk')
    have eg : begunOf (T.take (k + 1)) = stepRow (begunOf (T.take k)) T[k] := by
      unfold begunOf
      rw [et, List.foldl_append]
      rfl
    have hat : ∀ q, at2 T k q = T[k].getD q 1 := fun q => by
      unfold at2
      rw [show T.getD k [] = T[k] by rw [List.getD_eq_getElem?_getD, List.getElem?_eq_getElem hk']; rfl]
    rw [eg]
    unfold stepRow
    rw [List.mem_flatMap]
    constructor
    · rintro ⟨b, hb, hc⟩
      obtain ⟨hB, hs⟩ := (ih b).mp hb
      obtain ⟨q, a, hq, ha, hn, rfl⟩ := mem_ext.mp hc
      have hqn : q < n := by
        have := (List.getElem?_eq_some_iff.mp hq).1
        omega
      have eqa : at2 T k q = a := by rw [hat, List.getD_eq_getElem?_getD, hq]; rfl
      have ha2 : a ≤ 2 := hrow.2 a (List.mem_of_getElem? hq)
      refine ⟨⟨by simp [hB.len], ?_, ?_, ?_⟩, ?_⟩
      · show (b.1 ++ [q]).Nodup
        rw [List.nodup_append]
        exact ⟨hB.nd, by simp, fun x hx y hy => by rw [List.mem_singleton] at hy; subst hy; intro e; subst e; exact hn hx⟩
      · intro x hx
        rcases List.mem_append.mp hx with hx | hx
        · exact hB.lt x hx
        · rw [List.mem_singleton] at hx; omega
      · intro i x hx
        by_cases hi : i < b.1.length
        · rw [List.getElem?_append_left hi] at hx
          exact hB.acts i x hx
        · rw [List.getElem?_append_right (by omega)] at hx
          have hi2 : i - b.1.length = 0 := by
            have := (List.getElem?_eq_some_iff.mp hx).1
            simp at this; omega
          rw [hi2] at hx
          have : q = x := by simpa using hx
          subst this
          have : i = k := by have := hB.len; omega
          subst this
          rw [eqa]; exact ha
      · show grown b.2 b.1 q a = _
        have := term_snoc (at2 T) b.1 q (by rw [hB.len, eqa]; exact ha2)
        rw [this, hs, hB.len, eqa]
    · rintro ⟨hC, hs⟩
      obtain ⟨p, s⟩ := c
      have hC : Begun (at2 T) n (k + 1) p := hC
      have hne : p ≠ [] := by intro e; have := hC.len; rw [e] at this; cases this
      obtain ⟨p0, q, rfl⟩ : ∃ p0 q, p = p0 ++ [q] := ⟨p.dropLast, p.getLast hne, (List.dropLast_concat_getLast hne).symm⟩
      have hl : p0.length = k := by have := hC.len; simpa using this
      have hnd := List.nodup_append.mp hC.nd
      have hqn : q < n := hC.lt q (by simp)
      have hB : Begun (at2 T) n k p0 := ⟨hl, hnd.1, fun x hx => hC.lt x (by simp [hx]), fun i x hx => hC.acts i x (by rw [List.getElem?_append_left (List.getElem?_eq_some_iff.mp hx).1]; exact hx)⟩
      have hq : T[k][q]? = some (at2 T k q) := by
        rw [hat, List.getD_eq_getElem?_getD, List.getElem?_eq_getElem (by omega)]
        rfl
      have ha2 : at2 T k q ≤ 2 := hrow.2 _ (List.mem_of_getElem? hq)
      refine ⟨(p0, term (at2 T) p0), (ih _).mpr ⟨hB, rfl⟩, mem_ext.mpr ⟨q, at2 T k q, hq, ?_, ?_, ?_⟩⟩
      · exact hC.acts k q (by rw [List.getElem?_append_right (by omega)]; simp [hl])
      · intro hm
        exact hnd.2.2 q hm q (by simp) rfl
      · have hs : s = term (at2 T) (p0 ++ [q]) := hs
        rw [hs, term_snoc _ _ _ (by rw [hl]; exact ha2), hl]
theorem mem_orders : ∀ (k : Nat) (l : List Nat), l.Nodup → l.length = k → ∀ p, p ∈ orders k l ↔ p.Nodup ∧ p.length = k ∧ ∀ x ∈ p, x ∈ l
  | 0, l, _, hl, p => by
    have : l = [] := List.length_eq_zero_iff.mp hl
    subst this
    simp only [orders, List.mem_singleton]
    constructor
    · rintro rfl; simp
    · rintro ⟨_, h, _⟩; exact List.length_eq_zero_iff.mp h
  | k + 1, l, hn, hl, p => by
    simp only [orders, List.mem_flatMap, List.mem_map]
    constructor
    · rintro ⟨x, hx, r, hr, rfl⟩
      have ih := (mem_orders k (l.erase x) (hn.erase x) (by rw [List.length_erase_of_mem hx, hl]; rfl) r).mp hr
      refine ⟨List.nodup_cons.mpr ⟨fun h => ?_, ih.1⟩, by simp [ih.2.1], fun y hy => ?_⟩
      · exact (List.Nodup.not_mem_erase hn) (ih.2.2 x h)
      · rcases List.mem_cons.mp hy with rfl | hy
        · exact hx
        · exact List.mem_of_mem_erase (ih.2.2 y hy)
    · rintro ⟨h1, h2, h3⟩
      match p, h1, h2, h3 with
      | [], _, h2, _ => cases h2
      | x :: r, h1, h2, h3 =>
        have hx := h3 x (by simp)
        have hc := List.nodup_cons.mp h1
        refine ⟨x, hx, r, (mem_orders k (l.erase x) (hn.erase x) (by rw [List.length_erase_of_mem hx, hl]; rfl) r).mpr ⟨hc.2, by simpa using h2, fun y hy => ?_⟩, rfl⟩
        exact (List.mem_erase_of_ne (fun e => hc.1 (by rw [← e]; exact hy))).mpr (h3 y (by simp [hy]))
theorem mem_perms (n : Nat) (p : List Nat) : p ∈ permsOf n ↔ p.Nodup ∧ p.length = n ∧ ∀ x ∈ p, x < n := by
  unfold permsOf
  rw [mem_orders n (List.range n) List.nodup_range (by simp)]
  simp
theorem foldl_none : ∀ (l : List Nat), l.foldl times 1 = 1
  | [] => rfl
  | x :: l => by
    have : times 1 x = 1 := by unfold times val; simp [code]
    rw [List.foldl_cons, this, foldl_none l]
theorem times_none (a : Nat) : times a 1 = 1 := by unfold times val; simp [code]
theorem foldl_has_none : ∀ (l : List Nat) (a : Nat), 1 ∈ l → l.foldl times a = 1
  | x :: l, a, h => by
    rw [List.foldl_cons]
    rcases List.mem_cons.mp h with e | h
    · rw [← e, times_none, foldl_none]
    · exact foldl_has_none l _ h
theorem term_acts {t : Nat → Nat → Nat} {p : List Nat} (h : term t p ≠ 1) (i x : Nat) (hx : p[i]? = some x) : t i x ≠ 1 := by
  intro e
  apply h
  have hp : prodT t p = 1 := by
    unfold prodT
    refine foldl_has_none _ _ (List.mem_map.mpr ⟨(x, i), List.mem_zipIdx_iff_getElem?.mpr hx, e⟩)
  rw [term_eq, hp]
  split <;> rfl
theorem mem_termSigns (T : List (List Nat)) (n : Nat) (hn : T.length = n) (hT : ∀ r ∈ T, r.length = n ∧ ∀ x ∈ r, x ≤ 2) (s : Nat) (hs : s ≠ 1) :
    s ∈ termSigns T ↔ ∃ p ∈ permsOf n, term (at2 T) p = s := by
  have hb := begun_iff T n hT T.length (Nat.le_refl _)
  rw [List.take_length] at hb
  unfold termSigns
  rw [List.mem_map]
  constructor
  · rintro ⟨c, hc, rfl⟩
    obtain ⟨hB, e⟩ := (hb c).mp hc
    exact ⟨c.1, (mem_perms n c.1).mpr ⟨hB.nd, by rw [hB.len, hn], hB.lt⟩, e.symm⟩
  · rintro ⟨p, hp, rfl⟩
    obtain ⟨h1, h2, h3⟩ := (mem_perms n p).mp hp
    exact ⟨(p, term (at2 T) p), (hb _).mpr ⟨⟨by rw [h2, hn], h1, h3, fun i x hx => term_acts hs i x hx⟩, rfl⟩, rfl⟩
theorem detM_eq (T : List (List Nat)) (n : Nat) (hn : T.length = n) (hT : ∀ r ∈ T, r.length = n ∧ ∀ x ∈ r, x ≤ 2) : detM T = detSet (at2 T) n := by
  have ha : above (at2 T) n = 0 ↔ ¬ 2 ∈ termSigns T := by
    rw [mem_termSigns T n hn hT 2 (by decide)]
    unfold above
    rw [List.length_eq_zero_iff, List.filter_eq_nil_iff]
    constructor
    · rintro h ⟨p, hp, e⟩; exact h p hp (by rw [e]; rfl)
    · intro h p hp e; exact h ⟨p, hp, eq_of_beq e⟩
  have hb : below (at2 T) n = 0 ↔ ¬ 0 ∈ termSigns T := by
    rw [mem_termSigns T n hn hT 0 (by decide)]
    unfold below
    rw [List.length_eq_zero_iff, List.filter_eq_nil_iff]
    constructor
    · rintro h ⟨p, hp, e⟩; exact h p hp (by rw [e]; rfl)
    · intro h p hp e; exact h ⟨p, hp, eq_of_beq e⟩
  unfold detM detSet
  by_cases h2 : 2 ∈ termSigns T <;> by_cases h0 : 0 ∈ termSigns T
  · rw [if_pos ⟨h2, h0⟩, if_neg (by rw [ha]; simpa using h2), if_neg (by rw [hb]; simpa using h0)]
  · rw [if_neg (fun h => h0 h.2), if_pos h2, if_neg (by rw [ha]; simpa using h2), if_pos (by rw [hb]; exact h0)]
  · rw [if_neg (fun h => h2 h.1), if_neg h2, if_pos h0, if_pos (by rw [ha]; exact h2), if_neg (by rw [hb]; simpa using h0)]
  · rw [if_neg (fun h => h2 h.1), if_neg h2, if_neg h0, if_pos (by rw [ha]; exact h2), if_pos (by rw [hb]; exact h0)]
theorem prodT_congr {t u : Nat → Nat → Nat} {n : Nat} (h : ∀ i j, i < n → j < n → t i j = u i j) {p : List Nat} (hl : p.length ≤ n) (hx : ∀ x ∈ p, x < n) : prodT t p = prodT u p := by
  unfold prodT
  congr 1
  refine List.map_congr_left fun x hm => ?_
  have := List.mem_zipIdx_iff_getElem?.mp hm
  exact h _ _ (Nat.lt_of_lt_of_le (List.getElem?_eq_some_iff.mp this).1 hl) (hx _ (List.mem_of_getElem? this))
theorem detSet_congr {t u : Nat → Nat → Nat} {n : Nat} (h : ∀ i j, i < n → j < n → t i j = u i j) : detSet t n = detSet u n := by
  have hp : ∀ p ∈ permsOf n, term t p = term u p := fun p hp => by
    obtain ⟨_, h2, h3⟩ := (mem_perms n p).mp hp
    rw [term_eq, term_eq, prodT_congr h (Nat.le_of_eq h2) h3]
  have ha : above t n = above u n := by
    unfold above
    rw [List.filter_congr fun p hm => by rw [hp p hm]]
  have hb : below t n = below u n := by
    unfold below
    rw [List.filter_congr fun p hm => by rw [hp p hm]]
  unfold detSet
  rw [ha, hb]
end Mth


end
section
set_option linter.all false
namespace Ord
open Kri8 (House)
def lx : List Nat → List Nat → Prop
  | [], [] => False
  | [], _ :: _ => True
  | _ :: _, [] => False
  | x :: xs, y :: ys => x < y ∨ (x = y ∧ lx xs ys)
theorem lx_irrefl : ∀ l, ¬ lx l l
  | [], h => h
  | x :: l, h => by
    rcases h with h | ⟨_, h⟩
    · omega
    · exact lx_irrefl l h
theorem lx_asymm : ∀ {a b}, lx a b → lx b a → False
  | [], [], h, _ => h
  | [], _ :: _, _, h => h
  | _ :: _, [], h, _ => h
  | x :: a, y :: b, h, g => by
    rcases h with h | ⟨e, h⟩
    · rcases g with g | ⟨e, g⟩ <;> omega
    · rcases g with g | ⟨_, g⟩
      · omega
      · exact lx_asymm h g
theorem uniq : ∀ {l m : List (List Nat)}, l.Pairwise lx → m.Pairwise lx → (∀ r, r ∈ l ↔ r ∈ m) → l = m
  | [], [], _, _, _ => rfl
  | [], b :: m, _, _, h => absurd ((h b).mpr (by simp)) (by simp)
  | a :: l, [], _, _, h => absurd ((h a).mp (by simp)) (by simp)
  | a :: l, b :: m, hl, hm, h => by
    have hl' := List.pairwise_cons.mp hl
    have hm' := List.pairwise_cons.mp hm
    have e : a = b := by
      rcases List.mem_cons.mp ((h a).mp (by simp)) with e | ha
      · exact e
      · rcases List.mem_cons.mp ((h b).mpr (by simp)) with e | hb
        · exact e.symm
        · exact (lx_asymm (hm'.1 a ha) (hl'.1 b hb)).elim
    subst e
    rw [uniq hl'.2 hm'.2 fun r => ?_]
    constructor
    · intro hr
      rcases List.mem_cons.mp ((h r).mp (by simp [hr])) with e | q
      · subst e; exact absurd (hl'.1 _ hr) (lx_irrefl _)
      · exact q
    · intro hr
      rcases List.mem_cons.mp ((h r).mpr (by simp [hr])) with e | q
      · subst e; exact absurd (hm'.1 _ hr) (lx_irrefl _)
      · exact q
theorem rows_mem (h : House) : ∀ (k : Nat) (gone r : List Nat), r ∈ h.rows k gone ↔ r ≠ [] ∧ r.length ≤ k ∧ r.Nodup ∧ ∀ x ∈ r, x < h.n ∧ x ∉ gone
  | 0, gone, r => by
    show r ∈ [] ↔ _
    constructor
    · intro z; cases z
    · rintro ⟨h1, h2, _⟩
      exact absurd (List.length_eq_zero_iff.mp (by omega)) h1
  | k + 1, gone, r => by
    show r ∈ (h.qs.filter fun v => !(gone.contains v)).flatMap (fun v => [v] :: (h.rows k (v :: gone)).map fun r => v :: r) ↔ _
    rw [List.mem_flatMap]
    have hq : ∀ v, v ∈ (h.qs.filter fun v => !(gone.contains v)) ↔ v < h.n ∧ v ∉ gone := fun v => by
      unfold House.qs
      rw [List.mem_filter, List.mem_range]; simp
    constructor
    · rintro ⟨v, hv, hr⟩
      have hv := (hq v).mp hv
      rcases List.mem_cons.mp hr with rfl | hr
      · exact ⟨by simp, by simp, by simp, fun x hx => by rw [List.mem_singleton] at hx; rw [hx]; exact hv⟩
      · obtain ⟨r', hr', rfl⟩ := List.mem_map.mp hr
        obtain ⟨h1, h2, h3, h4⟩ := (rows_mem h k (v :: gone) r').mp hr'
        refine ⟨by simp, by simp; omega, List.nodup_cons.mpr ⟨fun z => (h4 v z).2 (by simp), h3⟩, fun x hx => ?_⟩
        rcases List.mem_cons.mp hx with rfl | hx
        · exact hv
        · exact ⟨(h4 x hx).1, fun z => (h4 x hx).2 (by simp [z])⟩
    · rintro ⟨h1, h2, h3, h4⟩
      match r, h1, h2, h3, h4 with
      | v :: r', _, h2, h3, h4 =>
        have hc := List.nodup_cons.mp h3
        refine ⟨v, (hq v).mpr (h4 v (by simp)), ?_⟩
        match r', h2, hc, h4 with
        | [], _, _, _ => simp
        | y :: r'', h2, hc, h4 =>
          refine List.mem_cons_of_mem _ (List.mem_map.mpr ⟨y :: r'', (rows_mem h k (v :: gone) _).mpr ⟨by simp, by simpa using h2, hc.2, fun x hx => ⟨(h4 x (by simp [hx])).1, fun z => ?_⟩⟩, rfl⟩)
          rcases List.mem_cons.mp z with z | z
          · exact hc.1 (z ▸ hx)
          · exact (h4 x (List.mem_cons_of_mem _ hx)).2 z
theorem range_lt (n : Nat) : (List.range n).Pairwise (· < ·) := List.pairwise_lt_range
theorem rows_sorted (h : House) : ∀ (k : Nat) (gone : List Nat), (h.rows k gone).Pairwise lx
  | 0, _ => List.Pairwise.nil
  | k + 1, gone => by
    show ((h.qs.filter fun v => !(gone.contains v)).flatMap (fun v => [v] :: (h.rows k (v :: gone)).map fun r => v :: r)).Pairwise lx
    rw [List.pairwise_flatMap]
    refine ⟨fun v _ => List.pairwise_cons.mpr ⟨fun r hr => ?_, ?_⟩, ?_⟩
    · obtain ⟨r', hr', rfl⟩ := List.mem_map.mp hr
      have hne := ((rows_mem h k (v :: gone) r').mp hr').1
      match r', hne with
      | y :: r'', _ => exact .inr ⟨rfl, trivial⟩
    · rw [List.pairwise_map]
      exact (rows_sorted h k (v :: gone)).imp fun z => .inr ⟨rfl, z⟩
    · refine List.Pairwise.filter _ ((range_lt h.n).imp fun {a b} hab x hx y hy => ?_)
      have e1 : ∃ t, x = a :: t := by
        rcases List.mem_cons.mp hx with rfl | hx
        · exact ⟨[], rfl⟩
        · obtain ⟨t, _, rfl⟩ := List.mem_map.mp hx; exact ⟨t, rfl⟩
      have e2 : ∃ t, y = b :: t := by
        rcases List.mem_cons.mp hy with rfl | hy
        · exact ⟨[], rfl⟩
        · obtain ⟨t, _, rfl⟩ := List.mem_map.mp hy; exact ⟨t, rfl⟩
      obtain ⟨t, rfl⟩ := e1
      obtain ⟨t', rfl⟩ := e2
      exact .inl hab
def Simple (n : Nat) (r : List Nat) : Prop := r ≠ [] ∧ r.Nodup ∧ ∀ x ∈ r, x < n
theorem len_le : ∀ (l m : List Nat), l.Nodup → (∀ x ∈ l, x ∈ m) → l.length ≤ m.length
  | [], m, _, _ => Nat.zero_le _
  | x :: l, m, hn, hs => by
    have hc := List.nodup_cons.mp hn
    have hx := hs x (by simp)
    have ih := len_le l (m.erase x) hc.2 fun y hy => (List.mem_erase_of_ne (fun e => hc.1 (by rw [← e]; exact hy))).mpr (hs y (by simp [hy]))
    rw [List.length_erase_of_mem hx] at ih
    have : 0 < m.length := List.length_pos_of_mem hx
    rw [List.length_cons]; omega
theorem simple_len {n : Nat} {r : List Nat} (h : Simple n r) : r.length ≤ n := by
  have := len_le r (List.range n) h.2.1 fun x hx => List.mem_range.mpr (h.2.2 x hx)
  simpa using this
theorem rows_all (h : House) (r : List Nat) : r ∈ h.rows h.n [] ↔ Simple h.n r := by
  rw [rows_mem]
  constructor
  · rintro ⟨h1, _, h3, h4⟩; exact ⟨h1, h3, fun x hx => (h4 x hx).1⟩
  · intro s; exact ⟨s.1, simple_len s, s.2.1, fun x hx => ⟨s.2.2 x hx, by simp⟩⟩
theorem paths_mem (h : House) (u v : Nat) (r : List Nat) : r ∈ h.paths u v ↔ Simple h.n r ∧ r.headD 0 = u ∧ r.getLastD 0 = v ∧ h.chain r = true := by
  unfold House.paths
  rw [List.mem_filter, rows_all]; simp
theorem loops_mem (h : House) (r : List Nat) : r ∈ h.loops ↔ Simple h.n r ∧ (∀ v ∈ r, r.headD 0 ≤ v) ∧ h.chain r = true ∧ h.acts (r.getLastD 0) (r.headD 0) = true := by
  unfold House.loops
  rw [List.mem_filter, rows_all]; simp
theorem loops_sorted (h : House) : h.loops.Pairwise lx := (rows_sorted h h.n []).filter _
theorem loops_of {h : House} {l : List (List Nat)} (hs : l.Pairwise lx) (hm : ∀ r, r ∈ l ↔ Simple h.n r ∧ (∀ v ∈ r, r.headD 0 ≤ v) ∧ h.chain r = true ∧ h.acts (r.getLastD 0) (r.headD 0) = true) : l = h.loops :=
  uniq hs (loops_sorted h) fun r => by rw [hm, loops_mem]
end Ord


end
section
set_option linter.all false
namespace Ord
open Kri8 (House)
def ext1 (h : House) (r : List Nat) : List (List Nat) := ((List.range h.n).filter fun q => h.at_ q (r.getLastD 0) != 1 && !(r.contains q)).map fun q => r ++ [q]
def lev (h : House) (u : Nat) : Nat → List (List Nat)
  | 0 => [[u]]
  | k + 1 => (lev h u k).flatMap (ext1 h)
theorem last_snoc (s : List Nat) (q d : Nat) : (s ++ [q]).getLastD d = q := by
  rw [List.getLastD_eq_getLast?, List.getLast?_append]; simp
theorem head_snoc {s : List Nat} (hs : s ≠ []) (q d : Nat) : (s ++ [q]).headD d = s.headD d := by
  cases s with
  | nil => exact absurd rfl hs
  | cons x t => rfl
theorem chain_snoc (h : House) (q : Nat) : ∀ s : List Nat, s ≠ [] → h.chain (s ++ [q]) = (h.chain s && h.acts (s.getLastD 0) q)
  | [], hs => absurd rfl hs
  | [x], _ => by
    show (h.acts x q && h.chain [q]) = (h.chain [x] && h.acts x q)
    rw [show h.chain [q] = true from rfl, show h.chain [x] = true from rfl]; simp
  | x :: y :: t, _ => by
    have ih := chain_snoc h q (y :: t) (by simp)
    show (h.acts x y && h.chain (y :: t ++ [q])) = ((h.acts x y && h.chain (y :: t)) && h.acts ((x :: y :: t).getLastD 0) q)
    rw [ih, Bool.and_assoc]
    rfl
theorem snoc_of {r : List Nat} {k : Nat} (h : r.length = k + 1) : ∃ s q, r = s ++ [q] ∧ s.length = k := by
  have hr : r ≠ [] := fun z => by rw [z] at h; cases h
  exact ⟨r.dropLast, r.getLast hr, (List.dropLast_concat_getLast hr).symm, by rw [List.length_dropLast]; omega⟩
theorem lev_mem (h : House) {u : Nat} (hu : u < h.n) : ∀ (k : Nat) (r : List Nat), r ∈ lev h u k ↔ r.length = k + 1 ∧ Simple h.n r ∧ r.headD 0 = u ∧ h.chain r = true
  | 0, r => by
    show r ∈ [[u]] ↔ _
    rw [List.mem_singleton]
    constructor
    · rintro rfl
      exact ⟨rfl, ⟨by simp, by simp, fun x hx => by rw [List.mem_singleton] at hx; rw [hx]; exact hu⟩, rfl, rfl⟩
    · rintro ⟨h1, _, h3, _⟩
      match r, h1, h3 with
      | [x], _, h3 => have : x = u := h3; rw [this]
  | k + 1, r => by
    show r ∈ (lev h u k).flatMap (ext1 h) ↔ _
    rw [List.mem_flatMap]
    constructor
    · rintro ⟨s, hs, hr⟩
      obtain ⟨q, hq, rfl⟩ := List.mem_map.mp hr
      obtain ⟨h1, ⟨h2, h3, h4⟩, h5, h6⟩ := (lev_mem h hu k s).mp hs
      rw [List.mem_filter, List.mem_range, Bool.and_eq_true] at hq
      obtain ⟨q1, q2, q3⟩ := hq
      have q3 : q ∉ s := by simpa using q3
      refine ⟨by simp [h1], ⟨by simp, ?_, fun x hx => ?_⟩, by rw [head_snoc h2]; exact h5, by rw [chain_snoc h q s h2, h6]; exact q2⟩
      · rw [List.nodup_append]
        refine ⟨h3, by simp, fun a ha b hb => ?_⟩
        rw [List.mem_singleton] at hb
        subst hb
        intro z; subst z; exact q3 ha
      · rcases List.mem_append.mp hx with hx | hx
        · exact h4 x hx
        · rw [List.mem_singleton] at hx; rw [hx]; exact q1
    · rintro ⟨h1, ⟨_, h3, h4⟩, h5, h6⟩
      obtain ⟨s, q, rfl, hs⟩ := snoc_of h1
      have sne : s ≠ [] := fun z => by rw [z] at hs; cases hs
      rw [List.nodup_append] at h3
      rw [head_snoc sne] at h5
      rw [chain_snoc h q s sne, Bool.and_eq_true] at h6
      refine ⟨s, (lev_mem h hu k s).mpr ⟨hs, ⟨sne, h3.1, fun x hx => h4 x (by simp [hx])⟩, h5, h6.1⟩, List.mem_map.mpr ⟨q, ?_, rfl⟩⟩
      rw [List.mem_filter, List.mem_range, Bool.and_eq_true]
      refine ⟨h4 q (by simp), h6.2, ?_⟩
      have : q ∉ s := fun z => h3.2.2 q z q (by simp) rfl
      simpa using this
theorem lev_few {h : House} {u : Nat} (hu : u < h.n) {k : Nat} (hk : lev h u k ≠ []) : k + 1 ≤ h.n := by
  obtain ⟨r, hr⟩ := List.exists_mem_of_ne_nil _ hk
  obtain ⟨h1, h2, _⟩ := (lev_mem h hu k r).mp hr
  have := simple_len h2
  omega
theorem lev_nil {h : House} {u k : Nat} (hk : lev h u k = []) : ∀ m, k ≤ m → lev h u m = []
  | 0, hm => by
    have : k = 0 := by omega
    subst this; exact hk
  | m + 1, hm => by
    by_cases e : k = m + 1
    · subst e; exact hk
    · show (lev h u m).flatMap (ext1 h) = []
      rw [lev_nil hk m (by omega)]; rfl
theorem ext1_len (h : House) (r : List Nat) : (ext1 h r).length ≤ h.n := by
  unfold ext1
  rw [List.length_map]
  exact Nat.le_trans (List.length_filter_le _ _) (by simp)
theorem flat_len_le {α β : Type} {f : α → List β} {n : Nat} : ∀ l : List α, (∀ x ∈ l, (f x).length ≤ n) → (l.flatMap f).length ≤ l.length * n
  | [], _ => by simp
  | x :: l, h => by
    rw [List.flatMap_cons, List.length_append, List.length_cons, Nat.succ_mul]
    have := flat_len_le l fun y hy => h y (by simp [hy])
    have := h x (by simp)
    omega
theorem lev_len {h : House} (hn : h.n ≤ 5) (u : Nat) : ∀ k, (lev h u k).length ≤ 5 ^ k
  | 0 => by simp [lev]
  | k + 1 => by
    have h1 := flat_len_le (f := ext1 h) (n := 5) (lev h u k) fun r _ => Nat.le_trans (ext1_len h r) hn
    have h2 := lev_len hn u k
    show ((lev h u k).flatMap (ext1 h)).length ≤ 5 ^ (k + 1)
    rw [Nat.pow_succ]
    exact Nat.le_trans h1 (Nat.mul_le_mul_right 5 h2)
def foundM (h : House) (u k : Nat) : List (List Nat) := (List.range (k + 1)).flatMap (lev h u)
theorem found_succ (h : House) (u k : Nat) : foundM h u (k + 1) = foundM h u k ++ lev h u (k + 1) := by
  unfold foundM
  rw [List.range_succ (n := k + 1), List.flatMap_append, List.flatMap_cons, List.flatMap_nil, List.append_nil]
theorem found_len {h : House} (hn : h.n ≤ 5) (u : Nat) {k : Nat} (hk : k ≤ 5) : (foundM h u k).length ≤ 18750 := by
  have h1 := flat_len_le (f := lev h u) (n := 3125) (List.range (k + 1)) fun m hm => by
    have hm := List.mem_range.mp hm
    exact Nat.le_trans (lev_len hn u m) (Nat.le_trans (Nat.pow_le_pow_right (by decide) (show m ≤ 5 by omega)) (by decide))
  rw [List.length_range] at h1
  have : (k + 1) * 3125 ≤ 6 * 3125 := Nat.mul_le_mul_right _ (by omega)
  exact Nat.le_trans h1 this
theorem found_any {h : House} {u : Nat} (hu : u < h.n) {k : Nat} {r : List Nat} (hr : r ∈ foundM h u k) : Simple h.n r ∧ r.headD 0 = u ∧ h.chain r = true := by
  unfold foundM at hr
  obtain ⟨m, _, hr⟩ := List.mem_flatMap.mp hr
  exact ((lev_mem h hu m r).mp hr).2
theorem found_mem {h : House} {u : Nat} (hu : u < h.n) {k : Nat} (hk : lev h u k = []) (r : List Nat) : r ∈ foundM h u k ↔ Simple h.n r ∧ r.headD 0 = u ∧ h.chain r = true := by
  constructor
  · exact found_any hu
  · rintro ⟨h1, h2, h3⟩
    have hl : 0 < r.length := List.length_pos_iff.mpr h1.1
    have hm : r ∈ lev h u (r.length - 1) := (lev_mem h hu _ r).mpr ⟨by omega, h1, h2, h3⟩
    unfold foundM
    refine List.mem_flatMap.mpr ⟨r.length - 1, List.mem_range.mpr ?_, hm⟩
    by_cases c : r.length - 1 < k + 1
    · exact c
    · rw [lev_nil hk _ (by omega)] at hm; cases hm
theorem lev_nodup (h : House) (u : Nat) : ∀ k, (lev h u k).Pairwise (· ≠ ·)
  | 0 => by simp [lev]
  | k + 1 => by
    show ((lev h u k).flatMap (ext1 h)).Pairwise (· ≠ ·)
    rw [List.pairwise_flatMap]
    refine ⟨fun r _ => ?_, (lev_nodup h u k).imp fun {a b} hab x hx y hy => ?_⟩
    · unfold ext1
      rw [List.pairwise_map]
      refine List.Pairwise.filter _ ((range_lt h.n).imp fun {x y} hxy z => ?_)
      have := (List.append_inj z rfl).2
      injection this with this _
      omega
    · obtain ⟨p, _, rfl⟩ := List.mem_map.mp hx
      obtain ⟨q, _, rfl⟩ := List.mem_map.mp hy
      intro z
      have hl : a.length = b.length := by
        have := congrArg List.length z
        simpa using this
      exact hab (List.append_inj z hl).1
theorem found_nodup {h : House} {u : Nat} (hu : u < h.n) (k : Nat) : (foundM h u k).Nodup := by
  unfold foundM List.Nodup
  rw [List.pairwise_flatMap]
  refine ⟨fun m _ => lev_nodup h u m, (range_lt (k + 1)).imp fun {a b} hab x hx y hy z => ?_⟩
  have h1 := ((lev_mem h hu a x).mp hx).1
  have h2 := ((lev_mem h hu b y).mp hy).1
  rw [z] at h1
  omega
def fromM (h : House) (u : Nat) : List (List Nat) := (h.rows h.n []).filter fun r => r.headD 0 == u && h.chain r
theorem from_mem (h : House) (u : Nat) (r : List Nat) : r ∈ fromM h u ↔ Simple h.n r ∧ r.headD 0 = u ∧ h.chain r = true := by
  unfold fromM
  rw [List.mem_filter, rows_all]; simp
theorem from_sorted (h : House) (u : Nat) : (fromM h u).Pairwise lx := (rows_sorted h h.n []).filter _
theorem from_of {h : House} {u : Nat} (hu : u < h.n) {k : Nat} (hk : lev h u k = []) {ms : List (List Nat)} (hp : ms.Perm (foundM h u k)) (hs : ms.Pairwise lx) : ms = fromM h u :=
  uniq hs (from_sorted h u) fun r => by rw [hp.mem_iff, found_mem hu hk, from_mem]
end Ord


end
section
set_option Elab.async false
set_option linter.all false
set_option maxRecDepth 100000
set_option maxHeartbeats 4000000
namespace My
open PySem PySem.Spec PyProof.Rows L2
open Kri4 (times turned turnedSet)
def top (i : Nat) : Stmt := PySem.Challenge.pw_signsonly_s01_answers.main.body.getD i (.Pass ⟨0, 0, 0, 0⟩)
abbrev sTurned : Stmt := top 8
abbrev sTset : Stmt := top 9
abbrev sTimes : Stmt := top 10
abbrev sWith : Stmt := top 11
abbrev sGrown : Stmt := top 12
abbrev sTerms : Stmt := top 13
abbrev sDet : Stmt := top 14
abbrev sSure : Stmt := top 15
abbrev sChange : Stmt := top 16
abbrev nV (x : Nat) : V := .int (x : Int)
structure Cst (mg : Str → Option Value) : Prop where
  below : ∃ t, mg "BELOW" = some (.int 0 t)
  non : ∃ t, mg "NONE" = some (.int 1 t)
  above : ∃ t, mg "ABOVE" = some (.int 2 t)
  oBelow : ∃ t, mg "ONLY_BELOW" = some (.int 1 t)
  oNone : ∃ t, mg "ONLY_NONE" = some (.int 2 t)
  oAbove : ∃ t, mg "ONLY_ABOVE" = some (.int 4 t)
  oAll : ∃ t, mg "ALL_THREE" = some (.int 7 t)
structure Blt (mg : Str → Option Value) : Prop where
  len : mg "len" = none
  range : mg "range" = none
  enum : mg "enumerate" = none
  zip : mg "zip" = none
  any : mg "any" = none
  min : mg "min" = none
  sum : mg "sum" = none
  sorted : mg "sorted" = none
section
variable {X : Cx}
theorem pgc {x : Str} {i : Int} {pos : Pos} (hg : Gl X x) (hm : ∃ t, X.mg x = some (.int i t)) (hd : (x == ("__debug__" : Str)) = false := by decide) : PE X (.Name x pos) (tC (.int i)) := by
  obtain ⟨t, e⟩ := hm
  exact pe_glob hg e ⟨t, rfl⟩ hd
end
structure Cal (P : Program) (w : World) (K : PySem.W.Frag) (mg : Str → Option Value) (base : Heap) (k : Nat) (x : Str) (ps : List Str) (sp : Sp) : Prop where
  ex : ∃ f fd, FnOk P w K mg base CX0 k f fd ps sp ∧ mg x = some (.ref f) ∧ PySem.W.keepIn K (.ref f) = true ∧ Binds K fd ps []
theorem pcall {X : Cx} {j k : Nat} {x : Str} {ps : List Str} {sp : Sp} {p pos : Pos} {e : Expr} {es : List Expr} {t : TA} (c : Cal X.prog X.w X.K X.mg X.base j x ps sp) (hr : Room k X.A) (hjk : j ≤ k) (hg : Gl X x) (ha : PA X (e :: es) t)
    (hdb : (x == ("__debug__" : Str)) = false := by decide) (he : starEach (e :: es) X.env = (false, eval e X.env) :: starEach es X.env := by rfl) (hpl : (backTo pos (starEach es X.env)).any (·.1) = false := by rfl) :
    PE X (.Call (.Name x p) (e :: es) [] pos) (tCall sp [] (fun _ _ _ => False) t) := by
  obtain ⟨f, fd, F, hm, hk, hb⟩ := c.ex
  have hx : Passes CX0 X (fun _ _ _ => False) := pass0
  exact pe_call (E := fun _ _ _ => False) F (hr.mono hjk) hg hm hk hb .nil hx ha hdb he hpl
section
variable {P : Program} {w : World} {K : PySem.W.Frag} {mg : Str → Option Value} {base : Heap} {f : Addr} {fd : FuncData}
def spTurned : Sp := fun vs H Q _ => ∃ s : Nat, s ≤ 2 ∧ vs = [nV s] ∧ Q (nV (turned s)) H
theorem sc8 : FnScope ["sign"] ["sign"] (defScope sTurned) := ⟨rfl, rfl, rfl, by decide +kernel, rfl, by decide +kernel, by decide +kernel⟩
theorem c_turned (F : Fun K "turned" "turned" sTurned f fd) (hm : mg "turned" = some (.ref f)) (C : Cst mg) : Cal P w K mg base 1 "turned" ["sign"] spTurned := by
  refine ⟨f, fd, F.ok sc8 (fun vs H Q E h => ?_) (fun cdv A outer s H vs Q E hr h => ?_), hm, F.kp, F.binds fun _ _ _ _ _ _ us hl => match us, hl with | [_], _ => rfl⟩
  · obtain ⟨s, _, rfl, _⟩ := h; rfl
  · obtain ⟨s, hs, rfl, q⟩ := h
    refine ⟨_, pss_one (ps_ret (pe_op op_sub (pgc rfl C.above) (pv 0))), ?_⟩
    refine ⟨_, rfl, _, _, rfl, rfl, ?_⟩
    have e : (2 : Int) - (s : Int) = ((turned s : Nat) : Int) := by unfold turned; omega
    show Q (V.int ((2 : Int) - (s : Int))) H
    rw [e]; exact q
def isSet (b : Nat) : Prop := b = 1 ∨ b = 2 ∨ b = 4 ∨ b = 7
def spTset : Sp := fun vs H Q _ => ∃ b : Nat, isSet b ∧ vs = [nV b] ∧ Q (nV (turnedSet b)) H
theorem sc9 : FnScope ["signs"] ["signs"] (defScope sTset) := ⟨rfl, rfl, rfl, by decide +kernel, rfl, by decide +kernel, by decide +kernel⟩
theorem c_tset (F : Fun K "turned_set" "turned_set" sTset f fd) (hm : mg "turned_set" = some (.ref f)) (C : Cst mg) : Cal P w K mg base 1 "turned_set" ["signs"] spTset := by
  refine ⟨f, fd, F.ok sc9 (fun vs H Q E h => ?_) (fun cdv A outer s H vs Q E hr h => ?_), hm, F.kp, F.binds fun _ _ _ _ _ _ us hl => match us, hl with | [_], _ => rfl⟩
  · obtain ⟨s, _, rfl, _⟩ := h; rfl
  · obtain ⟨b, hb, rfl, q⟩ := h
    refine ⟨_, pss_cons (ps_if (pt_cmpR op_eq (pv 0) (pgc rfl C.oBelow) (nomark _)) (pss_one (ps_ret (pgc rfl C.oAbove))) pss_nil)
      (pss_cons (ps_if (pt_cmpR op_eq (pv 0) (pgc rfl C.oAbove) (nomark _)) (pss_one (ps_ret (pgc rfl C.oBelow))) pss_nil) (pss_one (ps_ret (pv 0)))), ?_⟩
    rcases hb with rfl | rfl | rfl | rfl
    · exact ⟨_, rfl, rfl, _, rfl, iteT q⟩
    · exact ⟨_, rfl, rfl, _, rfl, iteF ⟨_, rfl, rfl, _, rfl, iteF ⟨_, rfl, q⟩⟩⟩
    · exact ⟨_, rfl, rfl, _, rfl, iteF ⟨_, rfl, rfl, _, rfl, iteT q⟩⟩
    · exact ⟨_, rfl, rfl, _, rfl, iteF ⟨_, rfl, rfl, _, rfl, iteF ⟨_, rfl, q⟩⟩⟩
def spTimes : Sp := fun vs H Q _ => ∃ a b : Nat, a ≤ 2 ∧ b ≤ 2 ∧ vs = [nV a, nV b] ∧ Q (nV (times a b)) H
theorem sc10 : FnScope ["one", "other"] ["one", "other"] (defScope sTimes) := ⟨rfl, rfl, rfl, by decide +kernel, rfl, by decide +kernel, by decide +kernel⟩
theorem c_times (F : Fun K "times" "times" sTimes f fd) (hm : mg "times" = some (.ref f)) (C : Cst mg) : Cal P w K mg base 1 "times" ["one", "other"] spTimes := by
  refine ⟨f, fd, F.ok sc10 (fun vs H Q E h => ?_) (fun cdv A outer s H vs Q E hr h => ?_), hm, F.kp, F.binds fun _ _ _ _ _ _ us hl => match us, hl with | [_, _], _ => rfl⟩
  · obtain ⟨_, _, _, _, rfl, _⟩ := h; rfl
  · obtain ⟨a, b, ha, hb, rfl, q⟩ := h
    refine ⟨_, pss_one (ps_ret (pe_op op_add (pe_op op_mul (pe_op op_sub (pv 0) (pgc rfl C.non)) (pe_op op_sub (pv 1) (pgc rfl C.non))) (pgc rfl C.non))), ?_⟩
    refine ⟨_, rfl, _, _, rfl, rfl, _, rfl, _, _, rfl, rfl, _, _, rfl, rfl, .inl ⟨?_, ?_⟩, _, _, rfl, rfl, ?_⟩
    · have : (0 : Int) ≤ (a : Int) := by omega
      show -(2 ^ 64) < (a : Int) - 1; omega
    · show (a : Int) - 1 < 2 ^ 64; omega
    have e : ((a : Int) - 1) * ((b : Int) - 1) + 1 = ((times a b : Nat) : Int) := by
      rcases Mth.sgn3 ha with rfl | rfl | rfl <;> rcases Mth.sgn3 hb with rfl | rfl | rfl <;> decide
    show Q (V.int (((a : Int) - 1) * ((b : Int) - 1) + 1)) H
    rw [e]; exact q
end
end My


end
section
set_option Elab.async false
set_option linter.all false
set_option maxRecDepth 100000
set_option maxHeartbeats 4000000
namespace My
open PySem PySem.Spec PyProof.Rows L2
open Kri4 (times turned turnedSet)
theorem take_snoc {α : Type} {l : List α} {i : Nat} {x : α} (h : l[i]? = some x) : l.take (i + 1) = l.take i ++ [x] := by
  obtain ⟨hi, e⟩ := List.getElem?_eq_some_iff.mp h
  rw [List.take_succ_eq_append_getElem hi, e]
theorem map_at {α β : Type} {f : α → β} {l : List α} {i : Nat} {x : β} (h : (l.map f)[i]? = some x) : ∃ e, l[i]? = some e ∧ x = f e := by
  rw [List.getElem?_map] at h
  cases q : l[i]? with
  | none => rw [q] at h; cases h
  | some e => rw [q] at h; exact ⟨e, rfl, (Option.some.inj h).symm⟩
theorem small {n : Nat} (h : n ≤ 100000) : n < sizeLine := Nat.lt_of_le_of_lt h (by decide)
theorem _root_.L2.Same.upd {H H1 : Hp} {p : Addr} {o : HO} (s : Same H H1) (h : H p = none) : Same H (L2.upd H1 p o) := fun b u e => by
  rw [upd_ne (ne_of_none e h)]; exact s b u e
section
variable {P : Program} {w : World} {K : PySem.W.Frag} {mg : Str → Option Value} {base : Heap} {f : Addr} {fd : FuncData}
def spSure : Sp := fun vs H Q _ => ∃ b : Nat, vs = [nV b] ∧ Q (.bl (Kri4.sure b)) H
theorem sc15 : FnScope ["signs"] ["signs"] (defScope sSure) := ⟨rfl, rfl, rfl, by decide +kernel, rfl, by decide +kernel, by decide +kernel⟩
theorem c_sure (F : Fun K "is_sure" "is_sure" sSure f fd) (hm : mg "is_sure" = some (.ref f)) (C : Cst mg) : Cal P w K mg base 1 "is_sure" ["signs"] spSure := by
  refine ⟨f, fd, F.ok sc15 (fun vs H Q E h => ?_) (fun cdv A outer s H vs Q E hr h => ?_), hm, F.kp, F.binds fun _ _ _ _ _ _ us hl => match us, hl with | [_], _ => rfl⟩
  · obtain ⟨_, rfl, _⟩ := h; rfl
  · obtain ⟨b, rfl, q⟩ := h
    refine ⟨_, pss_one (ps_ret (pe_or (pe_cmpR op_eq (pv 0) (pgc rfl C.oAbove) (nomark _)) (pe_one (pe_cmpR op_eq (pv 0) (pgc rfl C.oBelow) (nomark _))))), ?_⟩
    refine ⟨_, rfl, rfl, _, rfl, ?_⟩
    have e4 : decide ((V.int (b : Int)) = V.int 4) = decide (b = 4) := by
      by_cases h : b = 4
      · subst h; rfl
      · rw [decide_eq_false h, decide_eq_false]; intro q; injection q with q; omega
    have e1 : decide ((V.int (b : Int)) = V.int 1) = decide (b = 1) := by
      by_cases h : b = 1
      · subst h; rfl
      · rw [decide_eq_false h, decide_eq_false]; intro q; injection q with q; omega
    rw [e4]
    by_cases h4 : b = 4
    · subst h4; exact iteT q
    · rw [decide_eq_false h4]
      refine iteF ⟨_, rfl, rfl, ?_⟩
      show Q (V.bl (decide ((V.int (b : Int)) = V.int 1))) H
      rw [e1]
      have : Kri4.sure b = decide (b = 1) := by
        unfold Kri4.sure
        rw [show (b == 4) = false by simpa using h4, Bool.or_false]
        exact Bool.beq_eq_decide_eq _ _
      rw [← this]; exact q
theorem cut_to (xs : List V) (i : Nat) (h : i ≤ xs.length) : cutV xs none (some (i : Int)) = xs.take i := by
  unfold cutV
  rw [HT.sIx_none, HT.sIx_nat, Nat.min_eq_left h]; simp
theorem cut_from (xs : List V) (i : Nat) (h : i ≤ xs.length) : cutV xs (some (i : Int)) none = xs.drop i := by
  unfold cutV
  rw [HT.sIx_none, HT.sIx_nat, Nat.min_eq_left h]
  exact List.take_of_length_le (by simp)
theorem set_cut {α : Type} (xs : List α) (i : Nat) (v : α) (h : i < xs.length) : xs.take i ++ [v] ++ xs.drop (i + 1) = xs.set i v := by
  rw [List.set_eq_take_append_cons_drop, if_pos h]; simp
def spWith (K : PySem.W.Frag) : Sp := fun vs H Q _ => ∃ (a : Addr) (xs : List V) (i : Nat) (v : V), vs = [.ref a, nV i, v] ∧ SqL K H a xs ∧ i < xs.length ∧ xs.length ≤ 1000 ∧
  ∀ (H' : Hp) (p : Addr), Same H H' → H p = none → H' p = some (.lst (xs.set i v)) → Q (.ref p) H'
theorem sc11 : FnScope ["whole", "place", "part"] ["whole", "place", "part"] (defScope sWith) := ⟨rfl, rfl, rfl, by decide +kernel, rfl, by decide +kernel, by decide +kernel⟩
theorem c_with (F : Fun K "with_place" "with_place" sWith f fd) (hm : mg "with_place" = some (.ref f)) : Cal P w K mg base 1 "with_place" ["whole", "place", "part"] (spWith K) := by
  refine ⟨f, fd, F.ok sc11 (fun vs H Q E h => ?_) (fun cdv A outer s H vs Q E hr h => ?_), hm, F.kp, F.binds fun _ _ _ _ _ _ us hl => match us, hl with | [_, _, _], _ => rfl⟩
  · obtain ⟨_, _, _, _, rfl, _⟩ := h; rfl
  · obtain ⟨a, xs, i, v, rfl, hs, hi, hl, q⟩ := h
    refine ⟨_, pss_one (ps_ret (pe_op op_cat (pe_op op_cat (pe_slice sl_list (pv 0) po_none (po_some (pv 1))) (pe_lst (pa_cons (pv 2) pa_nil))) (pe_slice sl_list (pv 0) (po_some (pe_op op_add (pv 1) pe_int)) po_none))), ?_⟩
    have hz : ∀ n, n ≤ 3000 → n ≤ sizeLine := fun n h => Nat.le_of_lt (small (by omega))
    refine ⟨_, rfl, _, rfl, _, rfl, a, xs, rfl, hs, fun p1 h1 => ⟨_, rfl, hz _ (by show 1 ≤ 3000; omega), fun p2 h2 => ?_⟩⟩
    have s1 : Same H (upd H p1 (.lst (cutV xs none (some (i : Int))))) := (Same.refl H).upd h1
    have h2' : H p2 = none := s1.free h2
    have n12 : p1 ≠ p2 := ne_of_none (upd_same) h2
    refine ⟨p1, p2, _, _, rfl, rfl, by rw [upd_ne n12]; exact upd_same, upd_same, hz _ (by rw [cut_to xs i (by omega)]; simp; omega), fun p3 h3 => ?_⟩
    have s2 := s1.upd (o := .lst [v]) h2'
    have h3' : H p3 = none := s2.free h3
    have s3 := s2.upd (o := .lst (cutV xs none (some (i : Int)) ++ [v])) h3'
    refine ⟨_, rfl, _, rfl, _, _, rfl, rfl, _, rfl, a, xs, rfl, s3.seq hs, fun p4 h4 => ?_⟩
    have h4' : H p4 = none := s3.free h4
    have n34 : p3 ≠ p4 := ne_of_none (upd_same) h4
    have ei : ((i : Int) + 1) = ((i + 1 : Nat) : Int) := by omega
    refine ⟨p3, p4, _, _, rfl, rfl, by rw [upd_ne n34]; exact upd_same, upd_same, hz _ ?_, fun p5 h5 => ?_⟩
    · have := cutV_length xs (some ((i : Int) + 1)) none
      rw [cut_to xs i (by omega)]; simp; omega
    · have s4 := s3.upd (o := .lst (cutV xs (some ((i : Int) + 1)) none)) h4'
      have h5' : H p5 = none := s4.free h5
      refine q _ p5 (s4.upd h5') h5' ?_
      rw [upd_same, cut_to xs i (by omega), ei, cut_from xs (i + 1) (by omega), set_cut xs i v hi]
def nGrown : List Str := ["sign", "taken", "quantity", "acts", "product", "greater", "earlier"]
theorem sc12 : FnScope nGrown ["sign", "taken", "quantity", "acts"] (defScope sGrown) := ⟨rfl, rfl, rfl, by decide +kernel, rfl, by decide +kernel, by decide +kernel⟩
def spGrown (K : PySem.W.Frag) : Sp := fun vs H Q _ => ∃ (s : Nat) (a : Addr) (l : List Nat) (q c : Nat), vs = [nV s, .ref a, nV q, nV c] ∧ s ≤ 2 ∧ c ≤ 2 ∧ SqL K H a (l.map nV) ∧ l.length ≤ 1000 ∧
  ∀ H' : Hp, Same H H' → Q (nV (Mth.grown s l q c)) H'
theorem c_grown (F : Fun K "grown_sign" "grown_sign" sGrown f fd) (hm : mg "grown_sign" = some (.ref f)) (B : Blt mg) (cT : Cal P w K mg base 1 "times" ["one", "other"] spTimes) (cU : Cal P w K mg base 1 "turned" ["sign"] spTurned) :
    Cal P w K mg base 2 "grown_sign" ["sign", "taken", "quantity", "acts"] (spGrown K) := by
  refine ⟨f, fd, F.ok sc12 (fun vs H Q E h => ?_) (fun cdv A outer s H vs Q E hr h => ?_), hm, F.kp, F.binds fun _ _ _ _ _ _ us hl => match us, hl with | [_, _, _, _], _ => rfl⟩
  · obtain ⟨_, _, _, _, _, rfl, _⟩ := h; rfl
  · obtain ⟨s, a, l, q, c, rfl, hs, hc, hS, hl, k⟩ := h
    refine ⟨_, pss_cons (ps_set (i := 4) sc12.nd rfl (Or.inl rfl) (pcall cT hr (Nat.le_refl _) rfl (pa_cons (pv 0) (pa_cons (pv 3) pa_nil))))
      (pss_cons (ps_setLc (i := 5) rfl sc12.nd rfl rfl (sw_true rfl rfl rfl (by decide +kernel)) (pi_list (pv 1)) (blkOk_by (N := nGrown) (sc := defScope sGrown) (own := [("earlier", 6)]) (by decide +kernel)) (fun _ _ _ _ _ => pg_name (i := 6) sc12.nd rfl (Or.inl rfl))
        (fun _ _ _ _ _ => pts_one (pt_cmpR op_gt (pv 6) (pv 2) (nomark _))) (fun _ _ _ _ _ => pv 6))
      (pss_cons (ps_if (pt_cmpR op_eq (pe_op op_mod (pe_callB call_len_seq (by rfl) B.len PySem.boot_len (pa_cons (pv 5) pa_nil)) pe_int) pe_int (nomark _)) (pss_one (ps_ret (pcall cU hr (Nat.le_refl _) rfl (pa_cons (pv 4) pa_nil)))) pss_nil)
      (pss_one (ps_ret (pv 4))))), ?_⟩
    refine ⟨_, rfl, _, rfl, s, c, hs, hc, rfl, ?_⟩
    refine ⟨_, rfl, a, rfl, ⟨_, hS⟩, fun D hD => lc_list (a := a) (xs := l.map nV) (fun i H' => H' D = some (.lst (((l.take i).filter fun e => decide (q < e)).map nV)) ∧ Same H H') ⟨upd_same, (Same.refl H).upd hD⟩
      (fun i H' _ hp => hp.2.seq hS) (fun i x H' hx hp => ?_) fun H' hp => ?_⟩
    · obtain ⟨e, he, rfl⟩ := map_at hx
      refine ⟨rfl, _, rfl, _, rfl, _, _, rfl, rfl, _, rfl, ite2 (fun hgt => ?_) fun hgt => ?_⟩
      · have hgt : q < e := by have := of_decide_eq_true hgt; omega
        refine ⟨_, rfl, _, hp.1, small ?_, ?_, hp.2.upd hD⟩
        · rw [List.length_map]
          exact Nat.le_trans (List.length_filter_le _ _) (by rw [List.length_take]; omega)
        · rw [upd_same, take_snoc he, List.filter_append, List.map_append, List.filter_cons, if_pos (by simpa using hgt)]
          rfl
      · have hgt : ¬ q < e := fun z => hgt (decide_eq_true (by omega))
        refine ⟨?_, hp.2⟩
        rw [hp.1, take_snoc he, List.filter_append, List.filter_cons, if_neg (by simpa using hgt), List.filter_nil, List.append_nil]
    · obtain ⟨h1, h2⟩ := hp
      rw [List.length_map, List.take_length] at h1
      refine ⟨_, rfl, D, _, rfl, .inl (SqL.of h1), _, _, rfl, rfl, (by show (0 : Int) < 2; decide), rfl, _, rfl, ?_⟩
      have eg : Mth.grown s l q c = if (l.filter fun e => decide (q < e)).length % 2 = 1 then turned (times s c) else times s c := rfl
      have k' := k H' h2
      rw [eg] at k'
      rw [List.length_map]
      generalize (l.filter fun e => decide (q < e)).length = n at k' ⊢
      by_cases hn : n % 2 = 1
      · rw [if_pos hn] at k'
        refine ite2 (fun _ => ?_) fun z => absurd (decide_eq_true (by show V.int ((n : Int) % 2) = V.int 1; congr 1; omega)) z
        exact ⟨_, rfl, times s c, Mth.times_le _ _, rfl, k'⟩
      · rw [if_neg hn] at k'
        refine ite2 (fun z => ?_) fun _ => ⟨_, rfl, k'⟩
        have z : V.int ((n : Int) % 2) = V.int 1 := of_decide_eq_true z
        injection z with z
        omega
end
end My


end
section
set_option Elab.async false
set_option linter.all false
set_option maxRecDepth 100000
set_option maxHeartbeats 4000000
namespace My
open PySem PySem.Spec PyProof.Rows L2
open Kri4 (times turned turnedSet)
theorem for_enum {K : PySem.W.Frag} {a : Addr} {xs : List V} {g : TG} {tb : TS} {D : Ends} {σ : L2.St} {H : Hp} (Pv : Nat → L2.St → Hp → Prop) (h0 : Pv 0 σ H) (hl : ∀ i σ H, i ≤ xs.length → Pv i σ H → SqL K H a xs)
    (hs : ∀ i x σ H T, xs[i]? = some x → Pv i σ H → H T = none → g (.ref T) σ (upd H T (.tup [.int (i : Nat), x])) fun σ2 H2 => tb { D with nx := Pv (i + 1), ct := Pv (i + 1), bk := D.nx } σ2 H2) (hd : ∀ σ H, Pv xs.length σ H → D.nx σ H) :
    ∃ W : Nat → Nat → L2.St → Hp → Prop, (∃ m, W 0 m σ H) ∧ ∀ i m σ H, W i m σ H →
      ((Ite K a).stop i H ∧ D.nx σ H) ∨ ((Ite K a).go i H ∧ ∃ N : L2.St → Hp → Prop, (∀ σ' H', N σ' H' → ∃ m', m' < m ∧ W (i + 1) m' σ' H') ∧ ∀ x H', (Ite K a).yld i H x H' → g x σ H' fun σ2 H2 => tb { D with nx := N, ct := N, bk := D.nx } σ2 H2) := by
  refine ⟨fun i m σ H => m = xs.length - i ∧ i ≤ xs.length ∧ Pv i σ H, ⟨xs.length, by simp, Nat.zero_le _, h0⟩, ?_⟩
  rintro i m σ H ⟨rfl, hi, p⟩
  have q := hl i σ H hi p
  by_cases hlt : i < xs.length
  · refine .inr ⟨⟨xs, xs[i], q, by simp [hlt]⟩, Pv (i + 1), fun σ' H' p' => ⟨xs.length - (i + 1), by omega, rfl, hlt, p'⟩, fun v H' y => ?_⟩
    obtain ⟨T, x, rfl, hT, rfl, y⟩ := y
    exact hs i x σ _ T (y xs q) p hT
  · have e : i = xs.length := by omega
    subst e
    exact .inl ⟨⟨xs, q, Nat.le_refl _⟩, hd σ H p⟩
section
variable {α β : Type} {R S : α → β → Prop}
theorem pr_get : ∀ {xs : List α} {ys : List β} {i : Nat} {y : β}, Paired R xs ys → ys[i]? = some y → ∃ x, xs[i]? = some x ∧ R x y
  | _, _, _, _, .nil, e => by simp at e
  | _, _, 0, _, .cons r _, e => by simp at e; subst e; exact ⟨_, rfl, r⟩
  | _, _, i + 1, y, .cons _ t, e => by
    obtain ⟨x, h1, h2⟩ := pr_get (i := i) (y := y) t (by simpa using e)
    exact ⟨x, by simpa using h1, h2⟩
theorem pr_get' : ∀ {xs : List α} {ys : List β} {i : Nat} {x : α}, Paired R xs ys → xs[i]? = some x → ∃ y, ys[i]? = some y ∧ R x y
  | _, _, _, _, .nil, e => by simp at e
  | _, _, 0, _, .cons r _, e => by simp at e; subst e; exact ⟨_, rfl, r⟩
  | _, _, i + 1, x, .cons _ t, e => by
    obtain ⟨y, h1, h2⟩ := pr_get' (i := i) (x := x) t (by simpa using e)
    exact ⟨y, by simpa using h1, h2⟩
theorem pr_app : ∀ {xs xs' : List α} {ys ys' : List β}, Paired R xs ys → Paired R xs' ys' → Paired R (xs ++ xs') (ys ++ ys')
  | _, _, _, _, .nil, s => s
  | _, _, _, _, .cons r t, s => .cons r (pr_app t s)
theorem pr_imp : ∀ {xs : List α} {ys : List β}, Paired R xs ys → (∀ x y, R x y → S x y) → Paired S xs ys
  | _, _, .nil, _ => .nil
  | _, _, .cons r t, f => .cons (f _ _ r) (pr_imp t f)
theorem pr_len : ∀ {xs : List α} {ys : List β}, Paired R xs ys → xs.length = ys.length
  | _, _, .nil => rfl
  | _, _, .cons _ t => by rw [List.length_cons, List.length_cons, pr_len t]
end
theorem tyes {σ : L2.St} {H : Hp} {A B : Hp → Prop} (h : A H) : tYes σ H (fun b H3 => if b = true then A H3 else B H3) := by
  show if true = true then A H else B H
  rw [if_pos rfl]; exact h
def RowAt (K : PySem.W.Frag) (H : Hp) (v : V) (row : List Nat) : Prop := ∃ r, v = .ref r ∧ SqL K H r (row.map nV)
def TabAt (K : PySem.W.Frag) (H : Hp) (a : Addr) (T : List (List Nat)) : Prop := ∃ vs, SqL K H a vs ∧ Paired (RowAt K H) vs T
theorem RowAt.same {K : PySem.W.Frag} {H H' : Hp} {v : V} {row : List Nat} (s : Same H H') (h : RowAt K H v row) : RowAt K H' v row := let ⟨r, e, q⟩ := h; ⟨r, e, s.seq q⟩
theorem TabAt.same {K : PySem.W.Frag} {H H' : Hp} {a : Addr} {T : List (List Nat)} (s : Same H H') (h : TabAt K H a T) : TabAt K H' a T := let ⟨vs, e, q⟩ := h; ⟨vs, s.seq e, pr_imp q fun _ _ z => z.same s⟩
def TermAt (H : Hp) (v : V) (b : List Nat × Nat) : Prop := ∃ t a, v = .ref t ∧ H t = some (.tup [.ref a, nV b.2]) ∧ H a = some (.lst (b.1.map nV))
def SameQ (q : Addr) (H H' : Hp) : Prop := ∀ b o, H b = some o → b ≠ q → H' b = some o
theorem SameQ.of {q : Addr} {H H' : Hp} (s : Same H H') : SameQ q H H' := fun b o e _ => s b o e
theorem SameQ.trans {q : Addr} {H H1 H2 : Hp} (a : SameQ q H H1) (b : SameQ q H1 H2) : SameQ q H H2 := fun c o e n => b c o (a c o e n) n
theorem SameQ.put {q : Addr} {H : Hp} {o : HO} : SameQ q H (upd H q o) := fun b u e n => by rw [upd_ne n]; exact e
theorem SameQ.same {q : Addr} {H H1 H2 : Hp} (s : Same H H1) (hq : H q = none) (t : SameQ q H1 H2) : Same H H2 := fun b o e => t b o (s b o e) (ne_of_none e hq)
def TermQ (q : Addr) (H : Hp) (v : V) (b : List Nat × Nat) : Prop := ∃ t a, v = .ref t ∧ H t = some (.tup [.ref a, nV b.2]) ∧ H a = some (.lst (b.1.map nV)) ∧ t ≠ q ∧ a ≠ q
theorem TermQ.keep {q : Addr} {H H' : Hp} {v : V} {b : List Nat × Nat} (s : SameQ q H H') (h : TermQ q H v b) : TermQ q H' v b := let ⟨t, a, e, h1, h2, n1, n2⟩ := h; ⟨t, a, e, s _ _ h1 n1, s _ _ h2 n2, n1, n2⟩
theorem TermQ.at_ {q : Addr} {H : Hp} {v : V} {b : List Nat × Nat} (h : TermQ q H v b) : TermAt H v b := let ⟨t, a, e, h1, h2, _, _⟩ := h; ⟨t, a, e, h1, h2⟩
def oneT (b : List Nat × Nat) (x : Nat × Nat) : List (List Nat × Nat) := if x.1 ≠ 1 ∧ x.2 ∉ b.1 then [(b.1 ++ [x.2], Mth.grown b.2 b.1 x.2 x.1)] else []
theorem ext_eq (b : List Nat × Nat) (row : List Nat) : Mth.ext b row = row.zipIdx.flatMap (oneT b) := rfl
theorem flat_take_len (b : List Nat × Nat) (l : List (Nat × Nat)) : (l.flatMap (oneT b)).length ≤ l.length := by
  induction l with
  | nil => simp
  | cons x l ih =>
    rw [List.flatMap_cons, List.length_append, List.length_cons]
    have : (oneT b x).length ≤ 1 := by unfold oneT; split <;> simp
    omega
theorem zip_at {row : List Nat} {m c : Nat} (h : row[m]? = some c) : row.zipIdx[m]? = some (c, m) := by
  rw [List.getElem?_zipIdx, h]; simp
def Sq (n : Nat) (T : List (List Nat)) : Prop := ∀ r ∈ T, r.length = n ∧ ∀ x ∈ r, x ≤ 2
theorem ext_len (b : List Nat × Nat) (row : List Nat) : (Mth.ext b row).length ≤ row.length := by
  unfold Mth.ext
  have : ∀ (l : List (Nat × Nat)) (f : Nat × Nat → List (List Nat × Nat)), (∀ x, (f x).length ≤ 1) → (l.flatMap f).length ≤ l.length := by
    intro l f hf
    induction l with
    | nil => simp
    | cons x l ih => rw [List.flatMap_cons, List.length_append, List.length_cons]; have := hf x; omega
  refine Nat.le_trans (this _ _ fun x => ?_) (by simp)
  split <;> simp
theorem flat_len (bs : List (List Nat × Nat)) (row : List Nat) : (bs.flatMap fun b => Mth.ext b row).length ≤ bs.length * row.length := by
  induction bs with
  | nil => simp
  | cons b bs ih => rw [List.flatMap_cons, List.length_append, List.length_cons, Nat.succ_mul]; have := ext_len b row; omega
theorem begun_len (n : Nat) : ∀ (T : List (List Nat)) (bs : List (List Nat × Nat)), (∀ r ∈ T, r.length = n) → (T.foldl Mth.stepRow bs).length ≤ bs.length * n ^ T.length
  | [], bs, _ => by simp
  | r :: T, bs, h => by
    have ih := begun_len n T (Mth.stepRow bs r) fun x hx => h x (by simp [hx])
    have h1 := flat_len bs r
    rw [h r (by simp)] at h1
    have h2 : (Mth.stepRow bs r).length ≤ bs.length * n := h1
    rw [List.foldl_cons, List.length_cons, Nat.pow_succ]
    calc _ ≤ (Mth.stepRow bs r).length * n ^ T.length := ih
      _ ≤ (bs.length * n) * n ^ T.length := Nat.mul_le_mul_right _ h2
      _ = _ := by rw [Nat.mul_assoc, Nat.mul_comm (n ^ T.length) n]
theorem begun_small {n : Nat} {T : List (List Nat)} (hn : n ≤ 5) (hT : Sq n T) (hl : T.length = n) (i : Nat) : (Mth.begunOf (T.take i)).length ≤ 3125 := by
  have h := begun_len n (T.take i) [([], 2)] fun r hr => (hT r (List.mem_of_mem_take hr)).1
  have h2 : (T.take i).length ≤ 5 := by rw [List.length_take]; omega
  rw [List.length_singleton, Nat.one_mul] at h
  refine Nat.le_trans h ?_
  calc n ^ (T.take i).length ≤ 5 ^ (T.take i).length := Nat.pow_le_pow_left hn _
    _ ≤ 5 ^ 5 := Nat.pow_le_pow_right (by decide) h2
theorem begun_taken {n : Nat} {T : List (List Nat)} (hT : Sq n T) {i : Nat} (hi : i ≤ T.length) {b : List Nat × Nat} (hb : b ∈ Mth.begunOf (T.take i)) : b.1.length = i ∧ b.2 ≤ 2 := by
  have h := (Mth.begun_iff T n hT i hi b).mp hb
  refine ⟨h.1.len, ?_⟩
  rw [h.2, Mth.term_eq]
  split
  · exact Mth.turned_le _
  · exact Mth.prodT_le _ _
theorem begun_succ {T : List (List Nat)} {i : Nat} {r : List Nat} (h : T[i]? = some r) : Mth.begunOf (T.take (i + 1)) = (Mth.begunOf (T.take i)).flatMap fun b => Mth.ext b r := by
  unfold Mth.begunOf
  rw [take_snoc h, List.foldl_append]
  rfl
theorem inV_nat (q : Nat) (l : List Nat) : inV (nV q) (l.map nV) = decide (q ∈ l) := by
  unfold inV
  induction l with
  | nil => simp
  | cons x l ih =>
    rw [List.map_cons, List.any_cons, ih]
    have : eqV (nV x) (nV q) = decide (x = q) := by
      show ((x : Int) == (q : Int)) = decide (x = q)
      rw [Bool.beq_eq_decide_eq]
      congr 1
      exact propext ⟨fun h => by omega, fun h => by omega⟩
    rw [this]
    by_cases h : x = q
    · subst h; simp
    · have : q ≠ x := fun e => h e.symm
      simp [h, this]
theorem all_flat (l : List Nat) : (l.map nV).all flatV = true := by
  rw [List.all_map]; exact List.all_eq_true.mpr fun _ _ => rfl
def nTerms : List Str := ["table", "begun", "row", "longer", "taken", "sign", "quantity", "acts"]
theorem sc13 : FnScope nTerms ["table"] (defScope sTerms) := ⟨rfl, rfl, rfl, by decide +kernel, rfl, by decide +kernel, by decide +kernel⟩
def spTerms (K : PySem.W.Frag) : Sp := fun vs H Q _ => ∃ (a : Addr) (T : List (List Nat)) (n : Nat), vs = [.ref a] ∧ TabAt K H a T ∧ n ≤ 5 ∧ T.length = n ∧ Sq n T ∧
  ∀ (H' : Hp) (p : Addr), Same H H' → H p = none → H' p = some (.lst ((Mth.termSigns T).map nV)) → Q (.ref p) H'
section
variable {P : Program} {w : World} {K : PySem.W.Frag} {mg : Str → Option Value} {base : Heap} {f : Addr} {fd : FuncData}
theorem c_terms (F : Fun K "term_signs" "term_signs" sTerms f fd) (hm : mg "term_signs" = some (.ref f)) (C : Cst mg) (B : Blt mg) (cG : Cal P w K mg base 2 "grown_sign" ["sign", "taken", "quantity", "acts"] (spGrown K)) :
    Cal P w K mg base 3 "term_signs" ["table"] (spTerms K) := by
  refine ⟨f, fd, F.ok sc13 (fun vs H Q E h => ?_) (fun cdv A outer s H vs Q E hr h => ?_), hm, F.kp, F.binds fun _ _ _ _ _ _ us hl => match us, hl with | [_], _ => rfl⟩
  · obtain ⟨_, _, _, rfl, _⟩ := h; rfl
  · obtain ⟨a, T, n, rfl, ⟨rs, hrs, hpr⟩, hn, hTl, hT, k⟩ := h
    refine ⟨_, pss_cons (ps_set (i := 1) sc13.nd rfl (Or.inl rfl) (pe_lst (pa_cons (pe_tup (pa_cons (pe_lst pa_nil) (pa_cons (pgc rfl C.above) pa_nil))) pa_nil)))
      (pss_cons (ps_for PassesOwn.never rfl (pi_list (pv 0)) (pg_name (i := 2) sc13.nd rfl (Or.inl rfl))
        (pss_cons (ps_set (i := 3) sc13.nd rfl (Or.inl rfl) (pe_lst pa_nil))
        (pss_cons (ps_for PassesOwn.never rfl (pi_list (pv 1)) (pg_tup rfl (pgs_cons (pg_name (i := 4) sc13.nd rfl (Or.inl rfl)) (pgs_cons (pg_name (i := 5) sc13.nd rfl (Or.inl rfl)) pgs_nil)))
          (pss_one (ps_for PassesOwn.never rfl (pi_enum rfl B.enum (pa_cons (pv 2) pa_nil)) (pg_tup rfl (pgs_cons (pg_name (i := 6) sc13.nd rfl (Or.inl rfl)) (pgs_cons (pg_name (i := 7) sc13.nd rfl (Or.inl rfl)) pgs_nil)))
            (pss_one (ps_if (PW.pt (pw_and (pt_cmpR op_ne (pv 7) (pgc rfl C.non) (nomark _)) (pw_and1 (pt_cmpR op_notIn_seq (pv 6) (pv 4) (by with_unfolding_all rfl)))))
              (pss_one (ps_expr (pe_bm PySem.F.plainAttrs_list PySem.F.slot_list_append PySem.F.type_list_append mt_append (pv 3) (pa_cons (pe_tup (pa_cons (pe_op op_cat (pv 4) (pe_lst (pa_cons (pv 6) pa_nil)))
                (pa_cons (pcall cG hr (Nat.le_refl _) rfl (pa_cons (pv 5) (pa_cons (pv 4) (pa_cons (pv 6) (pa_cons (pv 7) pa_nil))))) pa_nil))) pa_nil)))) pss_nil)))))
        (pss_one (ps_set (i := 1) sc13.nd rfl (Or.inl rfl) (pv 3))))))
      (pss_one (ps_ret (pe_lc (g := gTup K 2 (gCons (gName 4) (gCons (gName 5) gNil))) rfl sc13.nd (pi_list (pv 1)) (blkOk_by (N := nTerms) (sc := defScope sTerms) (own := [("taken", 4), ("sign", 5)]) (by decide +kernel))
        (fun _ _ _ _ _ => pg_tup rfl (pgs_cons (pg_name (i := 4) sc13.nd rfl (Or.inl rfl) (Or.inr rfl)) (pgs_cons (pg_name (i := 5) sc13.nd rfl (Or.inl rfl) (Or.inr rfl)) pgs_nil))) (fun _ _ _ _ _ => pts_nil) (fun _ _ _ _ _ => pv 5))))), ?_⟩
    refine ⟨Nat.zero_le _, fun p1 h1 => ⟨by show 2 ≤ sizeLine; decide, fun p2 h2 => ⟨by show 1 ≤ sizeLine; decide, fun p3 h3 => ?_⟩⟩⟩
    have s1 : Same H (upd H p1 (.lst [])) := (Same.refl H).upd h1
    have s2 := s1.upd (o := .tup [.ref p1, .int 2]) (s1.free h2)
    have s3 := s2.upd (o := .lst [.ref p2]) (s2.free h3)
    have n12 : p1 ≠ p2 := ne_of_none upd_same h2
    have n23 : p2 ≠ p3 := ne_of_none upd_same h3
    have n13 : p1 ≠ p3 := ne_of_none (o := .lst []) (by rw [upd_ne n12]; exact upd_same) h3
    refine ⟨_, rfl, a, rfl, ⟨_, s3.seq hrs⟩, for_list (K := K) (a := a) (xs := rs) (fun i σ H' => ∃ (l : Addr) (vs : List V) (o2 o3 o4 o5 o6 o7 : Option V), σ = [some (.ref a), some (.ref l), o2, o3, o4, o5, o6, o7] ∧ Same H H' ∧
      H' l = some (.lst vs) ∧ Paired (TermAt H') vs (Mth.begunOf (T.take i))) ⟨p3, [.ref p2], none, none, none, none, none, none, rfl, s3, upd_same, .cons ⟨p2, p1, rfl, ?_, ?_⟩ .nil⟩ (fun i σ H' _ ⟨_, _, _, _, _, _, _, _, _, s4, _⟩ => s4.seq hrs) ?_ ?_⟩
    · rw [upd_ne n23]; exact upd_same
    · rw [upd_ne n13, upd_ne n12]; exact upd_same
    · rintro i y σ H' hi ⟨l, vs, o2, o3, o4, o5, o6, o7, rfl, s4, hl, hb⟩
      obtain ⟨row, hrow, r, rfl, hrw⟩ := pr_get' hpr hi
      have hmem := List.mem_of_getElem? hrow
      have hiT : i < T.length := (List.getElem?_eq_some_iff.mp hrow).1
      have hbs := begun_small hn hT hTl i
      have htk : ∀ b ∈ Mth.begunOf (T.take i), b.1.length = i ∧ b.2 ≤ 2 := fun b hb => begun_taken hT (Nat.le_of_lt hiT) hb
      have hsucc := begun_succ hrow
      generalize Mth.begunOf (T.take i) = bs at hb hbs htk hsucc
      refine ⟨Nat.zero_le _, fun q hq => ?_⟩
      have s5 : Same H' (upd H' q (.lst [])) := (Same.refl H').upd hq
      refine ⟨_, rfl, l, rfl, ⟨_, SqL.of (s5 _ _ hl)⟩, for_list (K := K) (a := l) (xs := vs) (fun j σ H2 => ∃ (ws : List V) (o4 o5 o6 o7 : Option V), σ = [some (.ref a), some (.ref l), some (.ref r), some (.ref q), o4, o5, o6, o7] ∧ Same H' H2 ∧
        H2 q = some (.lst ws) ∧ Paired (TermQ q H2) ws ((bs.take j).flatMap fun b => Mth.ext b row)) ⟨[], o4, o5, o6, o7, rfl, s5, upd_same, .nil⟩ (fun j σ H2 _ ⟨_, _, _, _, _, _, s6, _⟩ => SqL.of (s6 _ _ hl)) ?_ ?_⟩
      · rintro j x σ H2 hj ⟨ws, o4, o5, o6, o7, rfl, s6, hq2, hw⟩
        obtain ⟨b, hbj, t, ad, rfl, ht, had⟩ := pr_get' hb hj
        have hbm := htk b (List.mem_of_getElem? hbj)
        have hAl : ((bs.take j).flatMap fun b => Mth.ext b row).length ≤ 3125 * 5 := by
          refine Nat.le_trans (flat_len _ _) (Nat.mul_le_mul ?_ ?_)
          · rw [List.length_take]; omega
          · rw [(hT row hmem).1]; exact hn
        refine ⟨t, _, rfl, SqT.of (s6 _ _ ht), rfl, _, _, rfl, _, _, rfl, rfl, ?_⟩
        refine ⟨_, rfl, r, row.map nV, rfl, (s4.trans s6).seq hrw, for_enum (K := K) (a := r) (xs := row.map nV) (fun m σ H3 => ∃ (ws : List V) (o6 o7 : Option V), σ = [some (.ref a), some (.ref l), some (.ref r), some (.ref q), some (.ref ad), some (nV b.2), o6, o7] ∧ Same H' H3 ∧
          H3 q = some (.lst ws) ∧ Paired (TermQ q H3) ws (((bs.take j).flatMap fun b => Mth.ext b row) ++ (row.zipIdx.take m).flatMap (oneT b))) ⟨ws, o6, o7, rfl, s6, hq2, ?_⟩ (fun m σ H3 _ ⟨_, _, _, _, s7, _⟩ => (s4.trans s7).seq hrw) ?_ ?_⟩
        · rw [List.take_zero, List.flatMap_nil, List.append_nil]; exact hw
        · rintro m x σ H3 p4 hm ⟨ws, o6, o7, rfl, s7, hq3, hw3⟩ h4
          obtain ⟨c, hc, rfl⟩ := map_at hm
          have hc2 : c ≤ 2 := (hT row hmem).2 c (List.mem_of_getElem? hc)
          have hml : m < row.length := (List.getElem?_eq_some_iff.mp hc).1
          have hz := take_snoc (zip_at hc)
          have s8 : Same H3 (upd H3 p4 (.tup [.int (m : Nat), nV c])) := (Same.refl H3).upd h4
          have hwl := pr_len hw3
          have hlen : ws.length ≤ 3125 * 5 + 5 := by
            rw [hwl, List.length_append]
            have := flat_take_len b (row.zipIdx.take m)
            have h5 : (row.zipIdx.take m).length ≤ 5 := by rw [List.length_take, List.length_zipIdx, (hT row hmem).1]; omega
            omega
          refine ⟨p4, _, rfl, SqT.of upd_same, rfl, _, _, rfl, _, _, rfl, rfl, ?_⟩
          have skip : oneT b (c, m) = [] → Paired (TermQ q (upd H3 p4 (.tup [.int (m : Nat), nV c]))) ws (((bs.take j).flatMap fun b => Mth.ext b row) ++ (row.zipIdx.take (m + 1)).flatMap (oneT b)) := fun e => by
            rw [hz, List.flatMap_append, List.flatMap_cons, e, List.flatMap_nil, List.nil_append, List.append_nil]
            exact pr_imp hw3 fun _ _ z => z.keep (SameQ.of s8)
          refine ⟨_, rfl, rfl, _, rfl, ?_⟩
          by_cases hc1 : c = 1
          · have e : (!decide (nV c = V.int 1)) = false := by subst hc1; rfl
            rw [e]
            refine iteF (iteF ⟨ws, _, _, rfl, s7.trans s8, s8 _ _ hq3, skip ?_⟩)
            unfold oneT; rw [if_neg (fun z => z.1 hc1)]
          · have e : (!decide (nV c = V.int 1)) = true := by
              rw [decide_eq_false]; · rfl
              intro z; injection z with z; omega
            rw [e]
            refine iteT ⟨_, rfl, _, rfl, ad, b.1.map nV, rfl, .inl (SqL.of (s8 _ _ (s7 _ _ had))), rfl, all_flat _, _, rfl, ?_⟩
            rw [show (if true = true then !inV (V.int (m : Nat)) (b.1.map nV) else inV (V.int (m : Nat)) (b.1.map nV)) = !inV (nV m) (b.1.map nV) from rfl, inV_nat]
            by_cases hm1 : m ∈ b.1
            · rw [decide_eq_true hm1]
              refine iteF ⟨ws, _, _, rfl, s7.trans s8, s8 _ _ hq3, skip ?_⟩
              unfold oneT; rw [if_neg (fun z => z.2 hm1)]
            · rw [decide_eq_false hm1]
              refine iteT ⟨_, rfl, .inl ⟨rfl, _, SqL.of (s8 _ _ hq3)⟩, _, rfl, _, rfl, by show 1 ≤ sizeLine; decide, fun p5 h5 => ?_⟩
              have s9 := s8.upd (o := .lst [.int (m : Nat)]) (s8.free h5)
              have had9 := s9 _ _ (s7 _ _ had)
              refine ⟨ad, p5, _, _, rfl, rfl, had9, upd_same, Nat.le_of_lt (small (by rw [List.length_map]; simp; omega)), fun p6 h6 => ?_⟩
              have s10 := s9.upd (o := .lst (b.1.map nV ++ [.int (m : Nat)])) (s9.free h6)
              refine ⟨_, rfl, _, rfl, _, rfl, _, rfl, b.2, ad, b.1, m, c, rfl, hbm.2, hc2, SqL.of (s10 _ _ (s7 _ _ had)), by omega, fun H7 s11 => ⟨by show 2 ≤ sizeLine; decide, fun p7 h7 => ?_⟩⟩
              have s12 : Same H3 H7 := s10.trans s11
              have s13 := s12.upd (o := .tup [.ref p6, nV (Mth.grown b.2 b.1 m c)]) (s12.free h7)
              have hp6 : H7 p6 = some (.lst (b.1.map nV ++ [.int (m : Nat)])) := s11 _ _ upd_same
              have n67 : p6 ≠ p7 := ne_of_none hp6 h7
              have nq6 : p6 ≠ q := fun z => by
                have := s9 _ _ hq3
                rw [← z, h6] at this; cases this
              have nq7 : p7 ≠ q := fun z => by
                have := s12 _ _ hq3
                rw [← z, h7] at this; cases this
              refine ⟨q, ws, _, rfl, rfl, s13 _ _ hq3, small (by omega), ⟨ws ++ [.ref p7], _, _, rfl, ?_, upd_same, ?_⟩⟩
              · exact SameQ.same (s7.trans s13) hq SameQ.put
              · have e1 : oneT b (c, m) = [(b.1 ++ [m], Mth.grown b.2 b.1 m c)] := by unfold oneT; rw [if_pos ⟨hc1, hm1⟩]
                rw [hz, List.flatMap_append, List.flatMap_cons, e1, List.flatMap_nil, List.append_nil, ← List.append_assoc]
                refine pr_app (pr_imp hw3 fun _ _ z => z.keep ((SameQ.of s13).trans SameQ.put)) (.cons ⟨p7, p6, rfl, ?_, ?_, nq7, nq6⟩ .nil)
                · rw [upd_ne nq7]; exact upd_same
                · rw [upd_ne nq6, upd_ne n67, hp6, List.map_append]; rfl
        · rintro σ H3 ⟨ws, o6, o7, rfl, s7, hq3, hw3⟩
          refine ⟨ws, _, _, _, _, rfl, s7, hq3, ?_⟩
          rw [List.length_map, show row.zipIdx.take row.length = row.zipIdx from List.take_of_length_le (by rw [List.length_zipIdx]; exact Nat.le_refl _)] at hw3
          rw [take_snoc hbj, List.flatMap_append, List.flatMap_cons, List.flatMap_nil, List.append_nil, ext_eq]
          exact hw3
      · rintro σ H2 ⟨ws, o4, o5, o6, o7, rfl, s6, hq2, hw⟩
        refine ⟨_, rfl, q, ws, _, _, _, _, _, _, rfl, s4.trans s6, hq2, ?_⟩
        rw [List.take_of_length_le (Nat.le_of_eq (pr_len hb).symm)] at hw
        rw [hsucc]
        exact pr_imp hw fun _ _ z => z.at_
    · rintro σ H' ⟨l, vs, o2, o3, o4, o5, o6, o7, rfl, s4, hl, hb⟩
      have hbs := begun_small hn hT hTl rs.length
      rw [pr_len hpr, List.take_length] at hb hbs
      refine ⟨_, rfl, l, rfl, ⟨_, SqL.of hl⟩, fun D hD => lc_list (K := K) (a := l) (xs := vs) (fun i H2 => H2 D = some (.lst ((((Mth.begunOf T).take i).map (·.2)).map nV)) ∧ Same H' H2) ⟨upd_same, (Same.refl H').upd hD⟩
        (fun i H2 _ hp => SqL.of (hp.2 _ _ hl)) (fun i x H2 hx hp => ?_) fun H2 hp => ?_⟩
      · obtain ⟨b, hbi, t, ad, rfl, ht, had⟩ := pr_get' hb hx
        refine ⟨t, _, rfl, SqT.of (hp.2 _ _ ht), rfl, _, _, rfl, _, _, rfl, rfl, rfl, ?_⟩
        refine tyes ⟨_, rfl, _, hp.1, small ?_, ?_, hp.2.upd hD⟩
        · rw [List.length_map, List.length_map, List.length_take]; omega
        · rw [upd_same, take_snoc hbi, List.map_append, List.map_append]; rfl
      · rw [pr_len hb, List.take_length] at hp
        exact k H2 D (s4.trans hp.2) (s4.free hD) hp.1
end
end My


end
section
set_option Elab.async false
set_option linter.all false
set_option maxRecDepth 100000
set_option maxHeartbeats 4000000
namespace My
open PySem PySem.Spec PyProof.Rows L2
open Kri4 (times turned turnedSet)
theorem detM_set (T : List (List Nat)) : isSet (Mth.detM T) := by
  unfold Mth.detM isSet
  split
  · simp
  · split
    · simp
    · split <;> simp
section
variable {P : Program} {w : World} {K : PySem.W.Frag} {mg : Str → Option Value} {base : Heap} {f : Addr} {fd : FuncData}
def nDet : List Str := ["table", "signs"]
theorem sc14 : FnScope nDet ["table"] (defScope sDet) := ⟨rfl, rfl, rfl, by decide +kernel, rfl, by decide +kernel, by decide +kernel⟩
def spDet (K : PySem.W.Frag) : Sp := fun vs H Q _ => ∃ (a : Addr) (T : List (List Nat)) (n : Nat), vs = [.ref a] ∧ TabAt K H a T ∧ n ≤ 5 ∧ T.length = n ∧ Sq n T ∧
  ∀ (H' : Hp), Same H H' → Q (nV (Mth.detM T)) H'
theorem c_det (F : Fun K "determinant" "determinant" sDet f fd) (hm : mg "determinant" = some (.ref f)) (C : Cst mg) (cT : Cal P w K mg base 3 "term_signs" ["table"] (spTerms K)) :
    Cal P w K mg base 4 "determinant" ["table"] (spDet K) := by
  refine ⟨f, fd, F.ok sc14 (fun vs H Q E h => ?_) (fun cdv A outer s H vs Q E hr h => ?_), hm, F.kp, F.binds fun _ _ _ _ _ _ us hl => match us, hl with | [_], _ => rfl⟩
  · obtain ⟨_, _, _, rfl, _⟩ := h; rfl
  · obtain ⟨a, T, n, rfl, hA, hn, hTl, hT, k⟩ := h
    refine ⟨_, pss_cons (ps_set (i := 1) sc14.nd rfl (Or.inl rfl) (pcall cT hr (Nat.le_refl _) rfl (pa_cons (pv 0) pa_nil)))
      (pss_cons (ps_if (PW.pt (pw_and (pt_cmpR op_in_seq (pgc rfl C.above) (pv 1) (by with_unfolding_all rfl)) (pw_and1 (pt_cmpR op_in_seq (pgc rfl C.below) (pv 1) (by with_unfolding_all rfl))))) (pss_one (ps_ret (pgc rfl C.oAll))) pss_nil)
      (pss_cons (ps_if (pt_cmpR op_in_seq (pgc rfl C.above) (pv 1) (by with_unfolding_all rfl)) (pss_one (ps_ret (pgc rfl C.oAbove))) pss_nil)
      (pss_cons (ps_if (pt_cmpR op_in_seq (pgc rfl C.below) (pv 1) (by with_unfolding_all rfl)) (pss_one (ps_ret (pgc rfl C.oBelow))) pss_nil)
      (pss_one (ps_ret (pgc rfl C.oNone)))))), ?_⟩
    refine ⟨_, rfl, a, T, n, rfl, hA, hn, hTl, hT, fun H' p s1 hp0 hp => ?_⟩
    have k' := k H' s1
    have i2 : ∀ neg, (if neg = true then !inV (V.int 2) ((Mth.termSigns T).map nV) else inV (V.int 2) ((Mth.termSigns T).map nV)) = if neg = true then !decide (2 ∈ Mth.termSigns T) else decide (2 ∈ Mth.termSigns T) := fun neg => by
      rw [show inV (V.int 2) ((Mth.termSigns T).map nV) = decide (2 ∈ Mth.termSigns T) from inV_nat 2 _]
    have i0 : ∀ neg, (if neg = true then !inV (V.int 0) ((Mth.termSigns T).map nV) else inV (V.int 0) ((Mth.termSigns T).map nV)) = if neg = true then !decide (0 ∈ Mth.termSigns T) else decide (0 ∈ Mth.termSigns T) := fun neg => by
      rw [show inV (V.int 0) ((Mth.termSigns T).map nV) = decide (0 ∈ Mth.termSigns T) from inV_nat 0 _]
    have hd : Mth.detM T = if 2 ∈ Mth.termSigns T ∧ 0 ∈ Mth.termSigns T then 7 else if 2 ∈ Mth.termSigns T then 4 else if 0 ∈ Mth.termSigns T then 1 else 2 := rfl
    rw [hd] at k'
    have hq := SqL.of (K := K) hp
    have hf := all_flat (Mth.termSigns T)
    refine ⟨_, rfl, p, _, rfl, .inl hq, rfl, hf, _, rfl, ?_⟩
    rw [i2]
    by_cases h2 : 2 ∈ Mth.termSigns T
    · rw [decide_eq_true h2]
      refine iteT ⟨_, rfl, p, _, rfl, .inl hq, rfl, hf, _, rfl, ?_⟩
      rw [i0]
      by_cases h0 : 0 ∈ Mth.termSigns T
      · rw [decide_eq_true h0]
        rw [if_pos ⟨h2, h0⟩] at k'
        exact iteT k'
      · rw [decide_eq_false h0]
        rw [if_neg (fun z => h0 z.2), if_pos h2] at k'
        refine iteF ⟨_, rfl, p, _, rfl, .inl hq, rfl, hf, _, rfl, ?_⟩
        rw [i2, decide_eq_true h2]
        exact iteT k'
    · rw [decide_eq_false h2]
      rw [if_neg (fun z => h2 z.1), if_neg h2] at k'
      refine iteF (iteF ⟨_, rfl, p, _, rfl, .inl hq, rfl, hf, _, rfl, ?_⟩)
      rw [i2, decide_eq_false h2]
      refine iteF ⟨_, rfl, p, _, rfl, .inl hq, rfl, hf, _, rfl, ?_⟩
      rw [i0]
      by_cases h0 : 0 ∈ Mth.termSigns T
      · rw [decide_eq_true h0]
        rw [if_pos h0] at k'
        exact iteT k'
      · rw [decide_eq_false h0]
        rw [if_neg h0] at k'
        exact iteF k'
end
theorem lc_zip {K : PySem.W.Frag} {a b : Addr} {xs ys : List V} {g : TG} {tt : TT} {te : TE} {vs : List Nat} {σ : L2.St} {H1 : Hp} {D : Addr} {Qd : Hp → Prop} (hlen : xs.length = ys.length) (Pv : Nat → Hp → Prop) (h0 : Pv 0 (upd H1 D (.lst [])))
    (hl : ∀ i H, i ≤ xs.length → Pv i H → SqL K H a xs ∧ SqL K H b ys)
    (hs : ∀ i x y H T, xs[i]? = some x → ys[i]? = some y → Pv i H → H T = none → g (.ref T) (wipe σ vs) (upd H T (.tup [x, y])) fun σ2 H2 => wipe σ2 vs = wipe σ vs ∧ tt σ2 H2 fun b H3 =>
      if b = true then te σ2 H3 fun y H4 => ∃ acc, H4 D = some (.lst acc) ∧ acc.length < sizeLine ∧ Pv (i + 1) (upd H4 D (.lst (acc ++ [y]))) else Pv (i + 1) H3) (hd : ∀ H, Pv xs.length H → Qd H) :
    ∃ W : Nat → Nat → Hp → Prop, (∃ m, W 0 m (upd H1 D (.lst []))) ∧ ∀ i m H, W i m H →
      ((Itz K a b).stop i H ∧ Qd H) ∨ ((Itz K a b).go i H ∧ ∃ Nx : Hp → Prop, (∀ H', Nx H' → ∃ m', m' < m ∧ W (i + 1) m' H') ∧ ∀ x H', (Itz K a b).yld i H x H' → g x (wipe σ vs) H' fun σ2 H2 => wipe σ2 vs = wipe σ vs ∧ tt σ2 H2 fun b H3 =>
        if b = true then te σ2 H3 fun y H4 => ∃ acc, H4 D = some (.lst acc) ∧ acc.length < sizeLine ∧ Nx (upd H4 D (.lst (acc ++ [y]))) else Nx H3) := by
  refine ⟨fun i m H => m = xs.length - i ∧ i ≤ xs.length ∧ Pv i H, ⟨xs.length, by simp, Nat.zero_le _, h0⟩, ?_⟩
  rintro i m H ⟨rfl, hi, p⟩
  have q := hl i H hi p
  by_cases hlt : i < xs.length
  · refine .inr ⟨⟨xs, ys, xs[i], ys[i], q.1, q.2, by simp [hlt], by simp [← hlen, hlt]⟩, Pv (i + 1), fun H' p' => ⟨xs.length - (i + 1), by omega, rfl, hlt, p'⟩, fun v H' y => ?_⟩
    obtain ⟨T, x, y, rfl, hT, rfl, e1, e2⟩ := y
    exact hs i x y _ T (e1 xs q.1) (e2 ys q.2) p hT
  · have e : i = xs.length := by omega
    subst e
    exact .inl ⟨⟨xs, ys, q.1, q.2, .inl (Nat.le_refl _)⟩, hd H p⟩
def repl (T : List (List Nat)) (Ps : List Nat) (q : Nat) : List (List Nat) := List.zipWith (fun row p => row.set q (turned p)) T Ps
def changeM (T : List (List Nat)) (Ps : List Nat) (q : Nat) : Nat := if Mth.detM T = 1 then turnedSet (Mth.detM (repl T Ps q)) else Mth.detM (repl T Ps q)
theorem repl_len {T : List (List Nat)} {Ps : List Nat} (q : Nat) (h : T.length = Ps.length) : (repl T Ps q).length = T.length := by
  unfold repl; rw [List.length_zipWith]; omega
theorem repl_get {T : List (List Nat)} {Ps : List Nat} (q : Nat) {i : Nat} {row : List Nat} {p : Nat} (h1 : T[i]? = some row) (h2 : Ps[i]? = some p) : (repl T Ps q)[i]? = some (row.set q (turned p)) := by
  unfold repl; rw [List.getElem?_zipWith, h1, h2]
theorem repl_sq {T : List (List Nat)} {Ps : List Nat} (q n : Nat) (hT : Sq n T) : Sq n (repl T Ps q) := by
  intro r hr
  obtain ⟨i, hi⟩ := List.mem_iff_getElem?.mp hr
  unfold repl at hi
  rw [List.getElem?_zipWith] at hi
  cases e1 : T[i]? with
  | none => rw [e1] at hi; cases hi
  | some row =>
    cases e2 : Ps[i]? with
    | none => rw [e1, e2] at hi; cases hi
    | some p =>
      rw [e1, e2] at hi
      have hi : row.set q (turned p) = r := Option.some.inj hi
      subst hi
      have hrow := hT row (List.mem_of_getElem? e1)
      refine ⟨by rw [List.length_set]; exact hrow.1, fun x hx => ?_⟩
      rcases List.mem_or_eq_of_mem_set hx with hx | hx
      · exact hrow.2 x hx
      · rw [hx]; exact Mth.turned_le _
def RowQ (D : Addr) (H : Hp) (v : V) (row : List Nat) : Prop := ∃ r, v = .ref r ∧ H r = some (.lst (row.map nV)) ∧ r ≠ D
theorem RowQ.keep {q : Addr} {H H' : Hp} {v : V} {row : List Nat} (s : SameQ q H H') (h : RowQ q H v row) : RowQ q H' v row := let ⟨r, e, h1, n⟩ := h; ⟨r, e, s _ _ h1 n, n⟩
theorem RowQ.at_ {K : PySem.W.Frag} {q : Addr} {H : Hp} {v : V} {row : List Nat} (h : RowQ q H v row) : RowAt K H v row := let ⟨r, e, h1, n⟩ := h; ⟨r, e, SqL.of h1⟩
theorem set_map (row : List Nat) (q x : Nat) : (row.map nV).set q (nV x) = (row.set q x).map nV := by rw [List.map_set]
section
variable {P : Program} {w : World} {K : PySem.W.Frag} {mg : Str → Option Value} {base : Heap} {f : Addr} {fd : FuncData}
def nChange : List Str := ["table", "whole", "pushes", "quantity", "replaced", "signs", "row", "push"]
theorem sc16 : FnScope nChange ["table", "whole", "pushes", "quantity"] (defScope sChange) := ⟨rfl, rfl, rfl, by decide +kernel, rfl, by decide +kernel, by decide +kernel⟩
def spChange (K : PySem.W.Frag) : Sp := fun vs H Q _ => ∃ (a b : Addr) (T : List (List Nat)) (Ps : List Nat) (q n : Nat), vs = [.ref a, nV (Mth.detM T), .ref b, nV q] ∧ TabAt K H a T ∧ n ≤ 5 ∧ T.length = n ∧ Sq n T ∧ SqL K H b (Ps.map nV) ∧ Ps.length = n ∧ (∀ p ∈ Ps, p ≤ 2) ∧ q < n ∧
  ∀ (H' : Hp), Same H H' → Q (nV (changeM T Ps q)) H'
theorem c_change (F : Fun K "change" "change" sChange f fd) (hm : mg "change" = some (.ref f)) (C : Cst mg) (B : Blt mg) (cW : Cal P w K mg base 1 "with_place" ["whole", "place", "part"] (spWith K)) (cU : Cal P w K mg base 1 "turned" ["sign"] spTurned)
    (cD : Cal P w K mg base 4 "determinant" ["table"] (spDet K)) (cS : Cal P w K mg base 1 "turned_set" ["signs"] spTset) :
    Cal P w K mg base 5 "change" ["table", "whole", "pushes", "quantity"] (spChange K) := by
  refine ⟨f, fd, F.ok sc16 (fun vs H Q E h => ?_) (fun cdv A outer s H vs Q E hr h => ?_), hm, F.kp, F.binds fun _ _ _ _ _ _ us hl => match us, hl with | [_, _, _, _], _ => rfl⟩
  · obtain ⟨_, _, _, _, _, _, rfl, _⟩ := h; rfl
  · obtain ⟨a, b, T, Ps, q, n, rfl, hA, hn, hTl, hT, hB, hPl, hP, hqn, k⟩ := h
    refine ⟨_, pss_cons (ps_setLc (g := gTup K 2 (gCons (gName 6) (gCons (gName 7) gNil))) (i := 4) rfl sc16.nd rfl rfl (sw_true rfl rfl rfl (by decide +kernel)) (pi_zip rfl B.zip (pa_cons (pv 0) (pa_cons (pv 2) pa_nil))) (blkOk_by (N := nChange) (sc := defScope sChange) (own := [("row", 6), ("push", 7)]) (by decide +kernel))
        (fun _ _ _ _ _ => pg_tup rfl (pgs_cons (pg_name (i := 6) sc16.nd rfl (Or.inl rfl) (Or.inr rfl)) (pgs_cons (pg_name (i := 7) sc16.nd rfl (Or.inl rfl) (Or.inr rfl)) pgs_nil)))
        (fun _ _ _ _ _ => pts_nil) (fun _ _ _ _ _ => pcall cW hr (by decide) rfl (pa_cons (pv 6) (pa_cons (pv 3) (pa_cons (pcall cU hr (by decide) rfl (pa_cons (pv 7) pa_nil)) pa_nil)))))
      (pss_cons (ps_set (i := 5) sc16.nd rfl (Or.inl rfl) (pcall cD hr (Nat.le_refl _) rfl (pa_cons (pv 4) pa_nil)))
      (pss_cons (ps_if (pt_cmpR op_eq (pv 1) (pgc rfl C.oBelow) (nomark _)) (pss_one (ps_ret (pcall cS hr (by decide) rfl (pa_cons (pv 5) pa_nil)))) pss_nil)
      (pss_one (ps_ret (pv 5))))), ?_⟩
    obtain ⟨rs, hrs, hpr⟩ := id hA
    have hrl : rs.length = T.length := pr_len hpr
    have hl2 : rs.length = (Ps.map nV).length := by rw [List.length_map]; omega
    refine ⟨_, rfl, _, rfl, a, b, rs, Ps.map nV, rfl, hrs, hB, fun D hD => lc_zip hl2 (fun i H' => ∃ vs, H' D = some (.lst vs) ∧ Same H H' ∧ Paired (RowQ D H') vs ((repl T Ps q).take i)) ⟨[], upd_same, (Same.refl H).upd hD, .nil⟩
      (fun i H' _ ⟨_, _, s1, _⟩ => ⟨s1.seq hrs, s1.seq hB⟩) ?_ ?_⟩
    · rintro i x y H' p hx hy ⟨vs, hv, s1, hw⟩ hp
      obtain ⟨row, hrow, r, rfl, hr1⟩ := pr_get' hpr hx
      obtain ⟨pu, hpu, rfl⟩ := map_at hy
      have hrT := hT row (List.mem_of_getElem? hrow)
      have s2 : Same H' (upd H' p (.tup [.ref r, nV pu])) := (Same.refl H').upd hp
      refine ⟨p, _, rfl, SqT.of upd_same, rfl, _, _, rfl, _, _, rfl, rfl, rfl, tyes ?_⟩
      refine ⟨_, rfl, _, rfl, _, rfl, pu, hP pu (List.mem_of_getElem? hpu), rfl, r, row.map nV, q, _, rfl, (s1.trans s2).seq hr1, by rw [List.length_map, hrT.1]; exact hqn, by rw [List.length_map, hrT.1]; omega, fun H3 p3 s3 h30 h3 => ?_⟩
      have hD3 : H3 D = some (.lst vs) := s3 _ _ (s2 _ _ hv)
      have n3 : p3 ≠ D := fun z => by rw [z, s2 _ _ hv] at h30; cases h30
      refine ⟨vs, hD3, small (by rw [pr_len hw, List.length_take]; have := repl_len (T := T) (Ps := Ps) q (by omega); omega), vs ++ [.ref p3], upd_same, ?_, ?_⟩
      · exact SameQ.same ((s1.trans s2).trans s3) hD SameQ.put
      · rw [take_snoc (repl_get q hrow hpu)]
        refine pr_app (pr_imp hw fun _ _ z => z.keep ((SameQ.of (s2.trans s3)).trans SameQ.put)) (.cons ⟨p3, rfl, ?_, n3⟩ .nil)
        rw [upd_ne n3, h3]
        exact congrArg (fun z => some (HO.lst z)) (set_map row q (turned pu))
    · rintro H' ⟨vs, hv, s1, hw⟩
      have hRl : (repl T Ps q).length = n := by rw [repl_len q (by omega), hTl]
      rw [show (repl T Ps q).take rs.length = repl T Ps q from List.take_of_length_le (by omega)] at hw
      have hTab : TabAt K H' D (repl T Ps q) := ⟨vs, SqL.of hv, pr_imp hw fun _ _ z => z.at_⟩
      refine ⟨_, rfl, D, repl T Ps q, n, rfl, hTab, hn, hRl, repl_sq q n hT, fun H2 s2 => ?_⟩
      have k' := k H2 (s1.trans s2)
      unfold changeM at k'
      refine ⟨_, rfl, rfl, _, rfl, ?_⟩
      by_cases h1 : Mth.detM T = 1
      · rw [h1]
        rw [if_pos h1] at k'
        exact iteT ⟨_, rfl, _, detM_set _, rfl, k'⟩
      · rw [if_neg h1] at k'
        have e1 : decide (nV (Mth.detM T) = V.int 1) = false := decide_eq_false (by intro z; injection z with z; omega)
        rw [e1]
        exact iteF ⟨_, rfl, k'⟩
end
end My


end
section
set_option Elab.async false
set_option linter.all false
set_option maxRecDepth 100000
set_option maxHeartbeats 4000000
namespace My
open PySem PySem.Spec PyProof.Rows L2
open Kri4 (times turned turnedSet)
open Kri8 (House)
abbrev cPlant : Stmt := top 35
abbrev mInit : Stmt := inClass cPlant 0
abbrev mBegin : Stmt := inClass cPlant 1
abbrev mSize : Stmt := inClass cPlant 2
abbrev mAct : Stmt := inClass cPlant 3
abbrev mPush : Stmt := inClass cPlant 4
abbrev mCalm : Stmt := inClass cPlant 5
abbrev mTurn : Stmt := inClass cPlant 6
abbrev mFeed : Stmt := inClass cPlant 7
def pf (ta pa : Addr) : List (Str × V) := putF "pushes" (.ref pa) (putF "table" (.ref ta) [])
theorem pf_tab (ta pa : Addr) : (pf ta pa).lookup ("table" : Str) = some (.ref ta) := by
  unfold pf; rw [lookup_putF, if_neg (by decide +kernel), lookup_putF, if_pos rfl]
theorem pf_psh (ta pa : Addr) : (pf ta pa).lookup ("pushes" : Str) = some (.ref pa) := by
  unfold pf; rw [lookup_putF, if_pos rfl]
theorem pf_no (ta pa : Addr) {m : Str} (h1 : ¬ m = "table") (h2 : ¬ m = "pushes") : (pf ta pa).lookup m = none := by
  unfold pf; rw [lookup_putF, if_neg h2, lookup_putF, if_neg h1]; rfl
theorem pf_eq (ta pa : Addr) : pf ta pa = [(("table" : Str), V.ref ta), ("pushes", .ref pa)] := by
  show (if ("table" : Str) = "pushes" then [(("table" : Str), V.ref pa)] else [(("table" : Str), V.ref ta), ("pushes", .ref pa)]) = _
  rw [if_neg (by decide +kernel)]
theorem pf_setT (ta pa t : Addr) : putF "table" (.ref t) (pf ta pa) = pf t pa := by
  rw [pf_eq, pf_eq]
  show (if ("table" : Str) = "table" then [(("table" : Str), V.ref t), ("pushes", .ref pa)] else (("table" : Str), V.ref ta) :: putF "table" (.ref t) [("pushes", .ref pa)]) = _
  rw [if_pos rfl]
theorem pf_setP (ta pa t : Addr) : putF "pushes" (.ref t) (pf ta pa) = pf ta t := by
  rw [pf_eq, pf_eq]
  show (if ("table" : Str) = "pushes" then [(("table" : Str), V.ref t), ("pushes", .ref pa)] else (("table" : Str), V.ref ta) :: (if ("pushes" : Str) = "pushes" then [(("pushes" : Str), V.ref t)] else ("pushes", .ref pa) :: putF "pushes" (.ref t) [])) = _
  rw [if_neg (by decide +kernel), if_pos rfl]
theorem pf_len (ta pa : Addr) : (pf ta pa).length = 2 := by rw [pf_eq]; rfl
def RowL (H : Hp) (a : Addr) (row : List Nat) : Prop := H a = some (.lst (row.map nV))
def PlantAt (C : Addr) (H : Hp) (p : Addr) (F : List Addr) (h : House) : Prop := ∃ (dx ta pa : Addr) (as : List Addr), F = p :: ta :: pa :: as ∧ H p = some (.ins C dx (pf ta pa)) ∧ H ta = some (.lst (as.map V.ref)) ∧
  H pa = some (.lst (h.push.map nV)) ∧ Paired (RowL H) as h.on ∧ (ta :: pa :: as).Nodup
structure Wf (h : House) : Prop where
  n5 : h.n ≤ 5
  len : h.on.length = h.n
  sq : Sq h.n h.on
  psh : ∀ x ∈ h.push, x ≤ 2
def SameBut (F : List Addr) (H H' : Hp) : Prop := ∀ b o, H b = some o → b ∉ F → H' b = some o
structure Chg (H H' : Hp) (F F' : List Addr) : Prop where
  but : SameBut F H H'
  new : ∀ b ∈ F', b ∈ F ∨ H b = none
theorem Chg.of_same {H H' : Hp} {F : List Addr} (s : Same H H') : Chg H H' F F := ⟨fun b o e _ => s b o e, fun b hb => .inl hb⟩
theorem pr_keep {H H' : Hp} : ∀ {as : List Addr} {rows : List (List Nat)}, Paired (RowL H) as rows → (∀ a ∈ as, ∀ o, H a = some o → H' a = some o) → Paired (RowL H') as rows
  | _, _, .nil, _ => .nil
  | _, _, .cons r t, f => .cons (f _ (by simp) _ r) (pr_keep t fun a ha o e => f a (by simp [ha]) o e)
theorem PlantAt.same {C : Addr} {H H' : Hp} {p : Addr} {F : List Addr} {h : House} (s : Same H H') (x : PlantAt C H p F h) : PlantAt C H' p F h := by
  obtain ⟨dx, ta, pa, as, hF, h1, h2, h3, h4, h5⟩ := x
  exact ⟨dx, ta, pa, as, hF, s _ _ h1, s _ _ h2, s _ _ h3, pr_keep h4 fun a _ o e => s a o e, h5⟩
theorem pr_map {H : Hp} {K : PySem.W.Frag} : ∀ {as : List Addr} {rows : List (List Nat)}, Paired (RowL H) as rows → Paired (RowAt K H) (as.map V.ref) rows
  | _, _, .nil => .nil
  | _, _, .cons r t => .cons ⟨_, rfl, SqL.of r⟩ (pr_map t)
theorem rows_len {H : Hp} {as : List Addr} {rows : List (List Nat)} (h : Paired (RowL H) as rows) : as.length = rows.length := pr_len h
structure Txt (K : PySem.W.Frag) (C : Addr) : Prop where
  cl : Cls K C
  nT : NoAttr K C "table"
  nP : NoAttr K C "pushes"
structure MCal (P : Program) (w : World) (K : PySem.W.Frag) (mg : Str → Option Value) (base : Heap) (C : Addr) (k : Nat) (m : Str) (ps : List Str) (sp : Sp) : Prop where
  ex : ∃ f fd, FnOk P w K mg base CX0 k f fd ps sp ∧ Meth K C m f ∧ Binds K fd ps []
theorem pmeth {X : Cx} {j k : Nat} {C : Addr} {m : Str} {ps : List Str} {sp : Sp} {apos pos : Pos} {o e : Expr} {es : List Expr} {ta : TE} {t : TA} {pl : Sem Bool} (c : MCal X.prog X.w X.K X.mg X.base C j m ps sp) (T : Txt X.K C) (hr : Room k X.A) (hjk : j ≤ k) (ho : PE X o ta) (ha : PA X (e :: es) t)
    (hst : starEach (e :: es) X.env = (false, eval e X.env) :: starEach es X.env := by rfl) (hpl : (backTo pos (starEach es X.env)).any (·.1) = false := by rfl)
    (ht : eval (.Call (.Attribute o m apos) (e :: es) [] pos) X.env = (do
      let ov ← eval o X.env
      standAt apos.atName
      let (f, first) ← holding [ov] (getMethod ov m pl)
      callWith pos f first (backTo pos (starEach (e :: es) X.env)) (backToKw pos (keywordEach [] X.env))) := by rfl) :
    PE X (.Call (.Attribute o m apos) (e :: es) [] pos) (tMeth C m sp [] (fun _ _ _ => False) ta t) := by
  obtain ⟨f, fd, F, hm, hb⟩ := c.ex
  have hx : Passes CX0 X (fun _ _ _ => False) := pass0
  exact pe_meth (E := fun _ _ _ => False) ho T.cl hm F (hr.mono hjk) hb .nil hx ha hst hpl ht
theorem pmeth0 {X : Cx} {j k : Nat} {C : Addr} {m : Str} {ps : List Str} {sp : Sp} {apos pos : Pos} {o : Expr} {ta : TE} {pl : Sem Bool} (c : MCal X.prog X.w X.K X.mg X.base C j m ps sp) (T : Txt X.K C) (hr : Room k X.A) (hjk : j ≤ k) (ho : PE X o ta)
    (ht : eval (.Call (.Attribute o m apos) [] [] pos) X.env = (do
      let ov ← eval o X.env
      standAt apos.atName
      let (f, first) ← holding [ov] (getMethod ov m pl)
      callWith pos f first [] []) := by rfl) :
    PE X (.Call (.Attribute o m apos) [] [] pos) (tMeth C m sp [] (fun _ _ _ => False) ta tNil) := by
  obtain ⟨f, fd, F, hm, hb⟩ := c.ex
  have hx : Passes CX0 X (fun _ _ _ => False) := pass0
  exact pe_meth0 (E := fun _ _ _ => False) ho T.cl hm F (hr.mono hjk) hb .nil hx ht
section
variable {P : Program} {w : World} {K : PySem.W.Frag} {mg : Str → Option Value} {base : Heap} {f C : Addr} {fd : FuncData}
def spInit (C : Addr) : Sp := fun vs H Q _ => ∃ (p dx : Addr), vs = [.ref p] ∧ H p = some (.ins C dx []) ∧ ∀ (H' : Hp) (F' : List Addr), PlantAt C H' p F' ⟨[], []⟩ → (∀ b o, H b = some o → b ≠ p → H' b = some o) → (∀ b ∈ F', b = p ∨ H b = none) → Q .non H'
theorem scI : FnScope ["self"] ["self"] (defScope mInit) := ⟨rfl, rfl, rfl, by decide +kernel, rfl, by decide +kernel, by decide +kernel⟩
theorem m_init (F : Fun K "__init__" "Plant.__init__" mInit f fd) (T : Txt K C) : FnOk P w K mg base CX0 1 f fd ["self"] (spInit C) := by
  refine F.ok scI (fun vs H Q E h => ?_) (fun cdv A outer s H vs Q E hr h => ?_)
  · obtain ⟨_, _, rfl, _⟩ := h; rfl
  · obtain ⟨p, dx, rfl, hp, k⟩ := h
    refine ⟨_, pss_cons (ps_fld (pv 0) (pe_lst pa_nil) rfl) (pss_one (ps_fld (pv 0) (pe_lst pa_nil) rfl)), ?_⟩
    refine ⟨Nat.zero_le _, fun ta hta => ?_⟩
    have nta : p ≠ ta := ne_of_none hp hta
    refine ⟨_, rfl, p, C, dx, [], rfl, by rw [upd_ne nta]; exact hp, T.cl, T.nT, by show 0 < 1000; decide, ?_⟩
    refine ⟨Nat.zero_le _, fun pa hpa => ?_⟩
    have npa : p ≠ pa := ne_of_none upd_same hpa
    have ntp : ta ≠ pa := ne_of_none (o := .lst []) (by rw [upd_ne nta.symm]; exact upd_same) hpa
    refine ⟨_, rfl, p, C, dx, putF "table" (.ref ta) [], rfl, by rw [upd_ne npa]; exact upd_same, T.cl, T.nP, by show 1 < 1000; decide, ?_⟩
    refine k _ [p, ta, pa] ⟨dx, ta, pa, [], rfl, upd_same, ?_, ?_, .nil, by simpa using ntp⟩ (fun b o e hb => ?_) fun b hb => ?_
    · rw [upd_ne nta.symm, upd_ne ntp, upd_ne nta.symm]; exact upd_same
    · rw [upd_ne npa.symm]; exact upd_same
    · have n1 : b ≠ ta := ne_of_none e hta
      have n2 : b ≠ pa := ne_of_none (o := o) (by rw [upd_ne hb, upd_ne n1]; exact e) hpa
      rw [upd_ne hb, upd_ne n2, upd_ne hb, upd_ne n1]; exact e
    · have hb : b = p ∨ b = ta ∨ b = pa := by simpa using hb
      rcases hb with rfl | rfl | rfl
      · exact .inl rfl
      · exact .inr hta
      · right
        rw [upd_ne npa.symm, upd_ne ntp.symm] at hpa
        exact hpa
def spSize (C : Addr) : Sp := fun vs H Q _ => ∃ (p : Addr) (F : List Addr) (h : House), vs = [.ref p] ∧ PlantAt C H p F h ∧ h.n ≤ 1000 ∧ Q (nV h.n) H
theorem scSz : FnScope ["self"] ["self"] (defScope mSize) := ⟨rfl, rfl, rfl, by decide +kernel, rfl, by decide +kernel, by decide +kernel⟩
theorem m_size (F : Fun K "size" "Plant.size" mSize f fd) (M : Meth K C "size" f) (T : Txt K C) (B : Blt mg) : MCal P w K mg base C 1 "size" ["self"] (spSize C) := by
  refine ⟨f, fd, F.ok scSz (fun vs H Q E h => ?_) (fun cdv A outer s H vs Q E hr h => ?_), M, F.binds fun _ _ _ _ _ _ us hl => match us, hl with | [_], _ => rfl⟩
  · obtain ⟨_, _, _, rfl, _⟩ := h; rfl
  · obtain ⟨p, F, h, rfl, ⟨dx, ta, pa, as, hF, h1, h2, h3, h4, h5⟩, hn, k⟩ := h
    refine ⟨_, pss_one (ps_ret (pe_callB call_len_seq (by rfl) B.len PySem.boot_len (pa_cons (pe_fld (pv 0) rfl) pa_nil))), ?_⟩
    refine ⟨_, rfl, p, C, dx, _, _, rfl, h1, T.cl, T.nP, pf_psh _ _, pa, _, rfl, .inl (SqL.of h3), ?_⟩
    rw [List.length_map]; exact k
end
end My


end
section
set_option Elab.async false
set_option linter.all false
set_option maxRecDepth 100000
set_option maxHeartbeats 4000000
namespace My
open PySem PySem.Spec PyProof.Rows L2
open Kri4 (times turned turnedSet)
open Kri8 (House)
theorem ixN_nat {n j : Nat} (h : j < n) : ixN n (j : Int) = some j := by
  unfold ixN; rw [if_pos (by omega), if_pos (by omega)]; simp
theorem rows_set {H : Hp} : ∀ {as : List Addr} {rows : List (List Nat)} {i : Nat} {a : Addr} {row' : List Nat}, Paired (RowL H) as rows → as.Nodup → as[i]? = some a → Paired (RowL (upd H a (.lst (row'.map nV)))) as (rows.set i row')
  | _, _, i, a, row', .nil, _, h => by simp at h
  | _, _, 0, a, row', .cons (a := b) (l₁ := bs) r t, nd, h => by
    have e : b = a := by simpa using h
    subst e
    have hn := List.nodup_cons.mp nd
    exact .cons upd_same (pr_keep t fun c hc o e => by rw [upd_ne (fun z => hn.1 (by rw [← z]; exact hc))]; exact e)
  | _, _, i + 1, a, row', .cons (a := b) (l₁ := bs) r t, nd, h => by
    have hn := List.nodup_cons.mp nd
    have h : bs[i]? = some a := by simpa using h
    have hm : a ∈ bs := List.mem_of_getElem? h
    refine .cons ?_ (rows_set t hn.2 h)
    show upd H a _ b = _
    rw [upd_ne (fun z => hn.1 (by rw [z]; exact hm))]; exact r
theorem at_row {h : House} (wf : Wf h) {k : Nat} (hk : k < h.n) {row : List Nat} (hr : h.on[k]? = some row) (j : Nat) : h.at_ k j = row.getD j 1 := by
  unfold House.at_
  rw [List.getD_eq_getElem?_getD (l := h.on), hr]; rfl
theorem PlantAt.cell {C : Addr} {H : Hp} {p : Addr} {F : List Addr} {h : House} {k j : Nat} (x : PlantAt C H p F h) (wf : Wf h) (hk : k < h.n) (hj : j < h.n) : ∃ (dx ta pa : Addr) (as : List Addr) (a : Addr) (row : List Nat), F = p :: ta :: pa :: as ∧
    H p = some (.ins C dx (pf ta pa)) ∧ H ta = some (.lst (as.map V.ref)) ∧ as[k]? = some a ∧ H a = some (.lst (row.map nV)) ∧ row.length = h.n ∧ row[j]? = some (h.at_ k j) ∧ h.at_ k j ≤ 2 ∧
    ∀ s : Nat, PlantAt C (upd H a (.lst ((row.map nV).set j (nV s)))) p F (h.set k j s) ∧ SameBut F H (upd H a (.lst ((row.map nV).set j (nV s)))) := by
  obtain ⟨dx, ta, pa, as, hF, h1, h2, h3, h4, h5⟩ := x
  have hl := rows_len h4
  have hk2 : k < h.on.length := by rw [wf.len]; exact hk
  obtain ⟨a, ha⟩ : ∃ a, as[k]? = some a := ⟨_, List.getElem?_eq_getElem (by omega)⟩
  obtain ⟨row, hrow, hra⟩ := pr_get' h4 ha
  have hrl := wf.sq row (List.mem_of_getElem? hrow)
  have hat := at_row wf hk hrow j
  have hrj : row[j]? = some (h.at_ k j) := by
    rw [hat, List.getD_eq_getElem?_getD, List.getElem?_eq_getElem (by omega)]; rfl
  refine ⟨dx, ta, pa, as, a, row, hF, h1, h2, ha, hra, hrl.1, hrj, hrl.2 _ (List.mem_of_getElem? hrj), fun s => ⟨?_, ?_⟩⟩
  · have hm : a ∈ as := List.mem_of_getElem? ha
    have nd := List.nodup_cons.mp h5
    have nd2 := List.nodup_cons.mp nd.2
    have n1 : p ≠ a := ne_of h1 hra (by intro q; cases q)
    have n2 : ta ≠ a := fun z => nd.1 (by simp [z, hm])
    have n3 : pa ≠ a := fun z => nd2.1 (by rw [z]; exact hm)
    refine ⟨dx, ta, pa, as, hF, by rw [upd_ne n1]; exact h1, by rw [upd_ne n2]; exact h2, by rw [upd_ne n3]; exact h3, ?_, h5⟩
    have := rows_set (row' := row.set j s) h4 nd2.2 ha
    rw [set_map]
    have e : h.on.getD k [] = row := by rw [List.getD_eq_getElem?_getD, hrow]; rfl
    show Paired (RowL _) as (h.on.set k ((h.on.getD k []).set j s))
    rw [e]; exact this
  · intro b o e hb
    rw [upd_ne]; · exact e
    intro z; subst z
    exact hb (by rw [hF]; simp [List.mem_of_getElem? ha])
theorem PlantAt.pushes {C : Addr} {H : Hp} {p : Addr} {F : List Addr} {h : House} (x : PlantAt C H p F h) : ∃ (dx ta pa : Addr) (as : List Addr), F = p :: ta :: pa :: as ∧ H p = some (.ins C dx (pf ta pa)) ∧ H pa = some (.lst (h.push.map nV)) ∧ p ≠ pa ∧
    (∀ l : List Nat, PlantAt C (upd H pa (.lst (l.map nV))) p F { h with push := l } ∧ SameBut F H (upd H pa (.lst (l.map nV)))) ∧
    ∀ (H' : Hp) (pb : Addr) (l : List Nat), Same H H' → H pb = none → H' pb = some (.lst (l.map nV)) → PlantAt C (upd H' p (.ins C dx (pf ta pb))) p (p :: ta :: pb :: as) { h with push := l } ∧ Chg H (upd H' p (.ins C dx (pf ta pb))) F (p :: ta :: pb :: as) := by
  obtain ⟨dx, ta, pa, as, hF, h1, h2, h3, h4, h5⟩ := x
  have nd := List.nodup_cons.mp h5
  have nd2 := List.nodup_cons.mp nd.2
  have n1 : p ≠ pa := ne_of h1 h3 (by intro q; cases q)
  have n2 : ta ≠ pa := fun z => nd.1 (by simp [z])
  have npt : p ≠ ta := ne_of h1 h2 (by intro q; cases q)
  refine ⟨dx, ta, pa, as, hF, h1, h3, n1, fun l => ⟨?_, ?_⟩, fun H' pb l s hb hb' => ⟨?_, ?_, ?_⟩⟩
  · refine ⟨dx, ta, pa, as, hF, by rw [upd_ne n1]; exact h1, by rw [upd_ne n2]; exact h2, upd_same, pr_keep h4 fun c hc o e => ?_, h5⟩
    rw [upd_ne (fun z => nd2.1 (by rw [← z]; exact hc))]; exact e
  · intro b o e hb
    rw [upd_ne]; · exact e
    intro z; subst z
    exact hb (by rw [hF]; simp)
  · have npb : p ≠ pb := ne_of_none h1 hb
    have ntb : ta ≠ pb := ne_of_none h2 hb
    have nrow : ∀ c ∈ as, c ≠ p ∧ c ≠ pb := fun c hc => by
      obtain ⟨i, hi⟩ := List.mem_iff_getElem?.mp hc
      obtain ⟨row, _, hr⟩ := pr_get' h4 hi
      exact ⟨ne_of hr h1 (by intro q; cases q), ne_of_none hr hb⟩
    refine ⟨dx, ta, pb, as, rfl, upd_same, by rw [upd_ne npt.symm]; exact s _ _ h2, by rw [upd_ne npb.symm]; exact hb', pr_keep h4 fun c hc o e => ?_, ?_⟩
    · rw [upd_ne (nrow c hc).1]; exact s _ _ e
    · refine List.nodup_cons.mpr ⟨?_, List.nodup_cons.mpr ⟨fun z => (nrow pb z).2 rfl, nd2.2⟩⟩
      intro z
      rcases List.mem_cons.mp z with z | z
      · exact ntb z
      · exact nd.1 (by simp [z])
  · intro b o e hb2
    rw [upd_ne]; · exact s _ _ e
    intro z; subst z
    exact hb2 (by rw [hF]; simp)
  · intro b hb2
    rcases List.mem_cons.mp hb2 with z | z
    · left; rw [hF, z]; simp
    · rcases List.mem_cons.mp z with z | z
      · left; rw [hF, z]; simp
      · rcases List.mem_cons.mp z with z | z
        · right; rw [z]; exact hb
        · left; rw [hF]; simp [z]
section
variable {P : Program} {w : World} {K : PySem.W.Frag} {mg : Str → Option Value} {base : Heap} {f C : Addr} {fd : FuncData}
def nAct : List Str := ["self", "acting", "upon", "sign", "before"]
theorem scAct : FnScope nAct ["self", "acting", "upon", "sign"] (defScope mAct) := ⟨rfl, rfl, rfl, by decide +kernel, rfl, by decide +kernel, by decide +kernel⟩
def spAct (C : Addr) : Sp := fun vs H Q _ => ∃ (p : Addr) (F : List Addr) (h : House) (j i s : Nat), vs = [.ref p, nV j, nV i, nV s] ∧ PlantAt C H p F h ∧ Wf h ∧ j < h.n ∧ i < h.n ∧
  ∀ H' : Hp, PlantAt C H' p F (h.set i j s) → SameBut F H H' → Q (nV (h.at_ i j)) H'
theorem m_act (F : Fun K "set_action" "Plant.set_action" mAct f fd) (M : Meth K C "set_action" f) (T : Txt K C) : MCal P w K mg base C 1 "set_action" ["self", "acting", "upon", "sign"] (spAct C) := by
  refine ⟨f, fd, F.ok scAct (fun vs H Q E h => ?_) (fun cdv A outer s H vs Q E hr h => ?_), M, F.binds fun _ _ _ _ _ _ us hl => match us, hl with | [_, _, _, _], _ => rfl⟩
  · obtain ⟨_, _, _, _, _, _, rfl, _⟩ := h; rfl
  · obtain ⟨p, F, h, j, i, s, rfl, hP, wf, hj, hi, k⟩ := h
    obtain ⟨dx, ta, pa, as, a, row, hF, h1, h2, ha, hra, hrl, hrj, hle, hset⟩ := hP.cell wf hi hj
    refine ⟨_, pss_cons (ps_set (i := 4) scAct.nd rfl (Or.inl rfl) (pe_ix ix_list (pe_ix ix_list (pe_fld (pv 0) rfl) (pv 2) (fun _ _ => rfl)) (pv 1) (fun _ _ => rfl)))
      (pss_cons (ps_asg (pv 3) (pg_sub (pe_ix ix_list (pe_fld (pv 0) rfl) (pv 2) (fun _ _ => rfl)) (pv 1) set_list)) (pss_one (ps_ret (pv 4)))), ?_⟩
    refine ⟨_, rfl, p, C, dx, _, _, rfl, h1, T.cl, T.nT, pf_tab _ _, _, rfl, ta, _, _, _, rfl, rfl, SqL.of h2, atI_nat (v := V.ref a) (by rw [List.getElem?_map, ha]; rfl), _, rfl, a, _, _, _, rfl, rfl, SqL.of hra, atI_nat (v := nV (h.at_ i j)) (by rw [List.getElem?_map, hrj]; rfl), ?_⟩
    refine ⟨_, rfl, _, rfl, p, C, dx, _, _, rfl, h1, T.cl, T.nT, pf_tab _ _, _, rfl, ta, _, _, _, rfl, rfl, SqL.of h2, atI_nat (v := V.ref a) (by rw [List.getElem?_map, ha]; rfl), _, rfl, a, _, _, j, rfl, rfl, hra, ixN_nat (by rw [List.length_map]; omega), ?_⟩
    exact ⟨_, rfl, k _ (hset s).1 (hset s).2⟩
def nPush : List Str := ["self", "quantity", "sign", "before"]
theorem scPush : FnScope nPush ["self", "quantity", "sign"] (defScope mPush) := ⟨rfl, rfl, rfl, by decide +kernel, rfl, by decide +kernel, by decide +kernel⟩
def spPush (C : Addr) : Sp := fun vs H Q _ => ∃ (p : Addr) (F : List Addr) (h : House) (i s : Nat), vs = [.ref p, nV i, nV s] ∧ PlantAt C H p F h ∧ i < h.n ∧
  ∀ H' : Hp, PlantAt C H' p F { h with push := h.push.set i s } → SameBut F H H' → Q (nV (h.push.getD i 1)) H'
theorem push_at {h : House} {i : Nat} (hi : i < h.n) : (h.push.map nV)[i]? = some (nV (h.push.getD i 1)) := by
  rw [List.getElem?_map, List.getD_eq_getElem?_getD, List.getElem?_eq_getElem (show i < h.push.length from hi)]; rfl
theorem m_push (F : Fun K "set_push" "Plant.set_push" mPush f fd) (M : Meth K C "set_push" f) (T : Txt K C) : MCal P w K mg base C 1 "set_push" ["self", "quantity", "sign"] (spPush C) := by
  refine ⟨f, fd, F.ok scPush (fun vs H Q E h => ?_) (fun cdv A outer s H vs Q E hr h => ?_), M, F.binds fun _ _ _ _ _ _ us hl => match us, hl with | [_, _, _], _ => rfl⟩
  · obtain ⟨_, _, _, _, _, rfl, _⟩ := h; rfl
  · obtain ⟨p, F, h, i, s, rfl, hP, hi, k⟩ := h
    obtain ⟨dx, ta, pa, as, hF, h1, h3, npp, hset, _⟩ := hP.pushes
    refine ⟨_, pss_cons (ps_set (i := 3) scPush.nd rfl (Or.inl rfl) (pe_ix ix_list (pe_fld (pv 0) rfl) (pv 1) (fun _ _ => rfl)))
      (pss_cons (ps_asg (pv 2) (pg_sub (pe_fld (pv 0) rfl) (pv 1) set_list)) (pss_one (ps_ret (pv 3)))), ?_⟩
    refine ⟨_, rfl, p, C, dx, _, _, rfl, h1, T.cl, T.nP, pf_psh _ _, _, rfl, pa, _, _, _, rfl, rfl, SqL.of h3, atI_nat (push_at hi), ?_⟩
    refine ⟨_, rfl, _, rfl, p, C, dx, _, _, rfl, h1, T.cl, T.nP, pf_psh _ _, _, rfl, pa, _, _, i, rfl, rfl, h3, ixN_nat (by rw [List.length_map]; exact hi), ?_⟩
    refine ⟨_, rfl, ?_⟩
    show Q _ (upd H pa (.lst ((h.push.map nV).set i (nV s))))
    rw [set_map]
    exact k _ (hset _).1 (hset _).2
def nCalm : List Str := ["self", "pushed", "sign"]
theorem scCalm : FnScope nCalm ["self"] (defScope mCalm) := ⟨rfl, rfl, rfl, by decide +kernel, rfl, by decide +kernel, by decide +kernel⟩
def spCalm (C : Addr) : Sp := fun vs H Q _ => ∃ (p : Addr) (F : List Addr) (h : House), vs = [.ref p] ∧ PlantAt C H p F h ∧ h.n ≤ 5 ∧
  ∀ (H' : Hp) (F' : List Addr), PlantAt C H' p F' { h with push := List.replicate h.n 1 } → Chg H H' F F' → Q (nV (h.push.filter fun s => s != 1).length) H'
theorem rep_flat (n : Nat) (v : V) : (List.replicate n [v]).flatten = List.replicate n v := by
  induction n with
  | zero => rfl
  | succ n ih => rw [List.replicate_succ, List.flatten_cons, ih, List.replicate_succ]; rfl
theorem rep_map (n x : Nat) : List.replicate n (nV x) = (List.replicate n x).map nV := by rw [List.map_replicate]
theorem m_calm (F : Fun K "calm" "Plant.calm" mCalm f fd) (M : Meth K C "calm" f) (T : Txt K C) (Cs : Cst mg) (B : Blt mg) (mS : MCal P w K mg base C 1 "size" ["self"] (spSize C)) : MCal P w K mg base C 2 "calm" ["self"] (spCalm C) := by
  refine ⟨f, fd, F.ok scCalm (fun vs H Q E h => ?_) (fun cdv A outer s H vs Q E hr h => ?_), M, F.binds fun _ _ _ _ _ _ us hl => match us, hl with | [_], _ => rfl⟩
  · obtain ⟨_, _, _, rfl, _⟩ := h; rfl
  · obtain ⟨p, F, h, rfl, hP, hn, k⟩ := h
    obtain ⟨dx, ta, pa, as, hF, h1, h3, npp, _, hset⟩ := hP.pushes
    refine ⟨_, pss_cons (ps_setLc (i := 1) rfl scCalm.nd rfl rfl (sw_true rfl rfl rfl (by decide +kernel)) (pi_list (pe_fld (pv 0) rfl)) (blkOk_by (N := nCalm) (sc := defScope mCalm) (own := [("sign", 2)]) (by decide +kernel)) (fun _ _ _ _ _ => pg_name (i := 2) scCalm.nd rfl (Or.inl rfl))
        (fun _ _ _ _ _ => pts_one (pt_cmpR op_ne (pv 2) (pgc rfl Cs.non) (nomark _))) (fun _ _ _ _ _ => pv 2))
      (pss_cons (ps_fld (pv 0) (pe_op op_rep (pe_lst (pa_cons (pgc rfl Cs.non) pa_nil)) (pmeth0 mS T hr (Nat.le_refl _) (pv 0))) rfl)
      (pss_one (ps_ret (pe_callB call_len_seq (by rfl) B.len PySem.boot_len (pa_cons (pv 1) pa_nil))))), ?_⟩
    refine ⟨_, rfl, p, C, dx, _, _, rfl, h1, T.cl, T.nP, pf_psh _ _, pa, rfl, ⟨_, SqL.of h3⟩, fun D hD => lc_list (a := pa) (xs := h.push.map nV) (fun i H' => H' D = some (.lst (((h.push.take i).filter fun s => s != 1).map nV)) ∧ Same H H') ⟨upd_same, (Same.refl H).upd hD⟩
      (fun i H' _ hp => hp.2.seq (SqL.of h3)) (fun i x H' hx hp => ?_) fun H' hp => ?_⟩
    · obtain ⟨e, he, rfl⟩ := map_at hx
      have hbool : (!decide (nV e = V.int 1)) = (e != 1) := by
        by_cases h1 : e = 1
        · subst h1; rfl
        · rw [decide_eq_false (by intro z; injection z with z; omega)]
          simp [h1]
      refine ⟨rfl, _, rfl, rfl, _, rfl, ?_⟩
      rw [hbool]
      refine ite2 (fun hgt => ?_) fun hgt => ?_
      · refine ⟨_, rfl, _, hp.1, small ?_, ?_, hp.2.upd hD⟩
        · rw [List.length_map]
          refine Nat.le_trans (List.length_filter_le _ _) ?_
          rw [List.length_take]
          have : h.push.length ≤ 5 := hn
          omega
        · rw [upd_same, take_snoc he, List.filter_append, List.map_append, List.filter_cons, if_pos hgt]
          rfl
      · refine ⟨?_, hp.2⟩
        rw [hp.1, take_snoc he, List.filter_append, List.filter_cons, if_neg hgt, List.filter_nil, List.append_nil]
    · obtain ⟨hD1, s1⟩ := hp
      rw [List.length_map, List.take_length] at hD1
      have hn5 : h.push.length ≤ 5 := hn
      refine ⟨by show 1 ≤ sizeLine; decide, fun p1 hp1 => ?_⟩
      have s2 := s1.upd (o := .lst [.int 1]) (s1.free hp1)
      refine ⟨_, rfl, p, dx, _, rfl, s2 _ _ h1, pf_no _ _ (by decide +kernel) (by decide +kernel), p, F, h, rfl, hP.same s2, by omega, ?_⟩
      refine ⟨p1, _, _, rfl, rfl, upd_same, by have : h.n ≤ 5 := hn; omega, by have : h.n ≤ 5 := hn; omega, Nat.le_of_lt (small (by show 1 * _ ≤ _; have : h.n ≤ 5 := hn; simp; omega)), fun p2 hp2 => ?_⟩
      have s3 := s2.upd (o := .lst (List.replicate (((h.n : Nat) : Int)).toNat [V.int 1]).flatten) (s2.free hp2)
      refine ⟨_, rfl, p, C, dx, _, rfl, s3 _ _ h1, T.cl, T.nP, by rw [pf_len]; decide, ?_⟩
      rw [pf_setP]
      have e2 : (List.replicate (((h.n : Nat) : Int)).toNat [V.int 1]).flatten = (List.replicate h.n 1).map nV := by
        rw [Int.toNat_natCast, rep_flat]; exact rep_map h.n 1
      have hs := hset _ p2 (List.replicate h.n 1) s3 (s2.free hp2) (by rw [upd_same, e2])
      have nD : D ≠ p := fun z => by rw [z, h1] at hD; cases hD
      refine ⟨_, rfl, D, (h.push.filter fun s => s != 1).map nV, rfl, .inl (SqL.of ?_), ?_⟩
      · rw [upd_ne nD]
        have n2 : D ≠ p2 := ne_of_none (o := .lst ((h.push.filter fun s => s != 1).map nV)) (by rw [upd_ne (ne_of_none hD1 hp1)]; exact hD1) hp2
        rw [upd_ne n2, upd_ne (ne_of_none hD1 hp1)]; exact hD1
      · rw [List.length_map]
        exact k _ _ hs.1 hs.2
end
end My


end
section
set_option Elab.async false
set_option linter.all false
set_option maxRecDepth 100000
set_option maxHeartbeats 4000000
namespace My
open PySem PySem.Spec PyProof.Rows L2
open Kri4 (times turned turnedSet)
open Kri8 (House)
theorem PlantAt.tab {C : Addr} {H : Hp} {p : Addr} {F : List Addr} {h : House} (x : PlantAt C H p F h) : ∃ (dx ta pa : Addr) (as : List Addr), F = p :: ta :: pa :: as ∧ H p = some (.ins C dx (pf ta pa)) ∧ H ta = some (.lst (as.map V.ref)) ∧ Paired (RowL H) as h.on ∧ H pa = some (.lst (h.push.map nV)) := by
  obtain ⟨dx, ta, pa, as, hF, h1, h2, h3, h4, h5⟩ := x
  exact ⟨dx, ta, pa, as, hF, h1, h2, h4, h3⟩
def fresh (n : Nat) : House := ⟨List.replicate n (List.replicate n 1), List.replicate n 1⟩
theorem pr_rep {H : Hp} {row : List Nat} : ∀ {as : List Addr}, (∀ a ∈ as, RowL H a row) → Paired (RowL H) as (List.replicate as.length row)
  | [], _ => .nil
  | a :: as, h => .cons (h a (by simp)) (pr_rep fun b hb => h b (by simp [hb]))
section
variable {P : Program} {w : World} {K : PySem.W.Frag} {mg : Str → Option Value} {base : Heap} {f C : Addr} {fd : FuncData}
def nBegin : List Str := ["self", "number", "quantity"]
theorem scBegin : FnScope nBegin ["self", "number"] (defScope mBegin) := ⟨rfl, rfl, rfl, by decide +kernel, rfl, by decide +kernel, by decide +kernel⟩
def spBegin (C : Addr) : Sp := fun vs H Q _ => ∃ (p : Addr) (F : List Addr) (h : House) (n : Nat), vs = [.ref p, nV n] ∧ PlantAt C H p F h ∧ n ≤ 5 ∧
  ∀ (H' : Hp) (F' : List Addr), PlantAt C H' p F' (fresh n) → Chg H H' F F' → Q .non H'
theorem m_begin (F : Fun K "begin" "Plant.begin" mBegin f fd) (M : Meth K C "begin" f) (T : Txt K C) (Cs : Cst mg) (B : Blt mg) : MCal P w K mg base C 1 "begin" ["self", "number"] (spBegin C) := by
  refine ⟨f, fd, F.ok scBegin (fun vs H Q E h => ?_) (fun cdv A outer s H vs Q E hr h => ?_), M, F.binds fun _ _ _ _ _ _ us hl => match us, hl with | [_, _], _ => rfl⟩
  · obtain ⟨_, _, _, _, rfl, _⟩ := h; rfl
  · obtain ⟨p, F, h, n, rfl, hP, hn, k⟩ := h
    obtain ⟨dx, ta, pa, as0, hF, h1, _, _, _⟩ := hP.tab
    have hz : ∀ m, m ≤ 3000 → m ≤ sizeLine := fun m h => Nat.le_of_lt (small (by omega))
    have e2 : (List.replicate (((n : Nat) : Int)).toNat [V.int 1]).flatten = (List.replicate n 1).map nV := by
      rw [Int.toNat_natCast, rep_flat]; exact rep_map n 1
    refine ⟨_, pss_cons (ps_fld (pv 0) (pe_lc rfl scBegin.nd (pi_range1 rfl B.range (pa_cons (pv 1) pa_nil)) (blkOk_by (N := nBegin) (sc := defScope mBegin) (own := [("quantity", 2)]) (by decide +kernel)) (fun _ _ _ _ _ => pg_name (i := 2) scBegin.nd rfl (Or.inl rfl) (Or.inr rfl))
        (fun _ _ _ _ _ => pts_nil) (fun _ _ _ _ _ => pe_op op_rep (pe_lst (pa_cons (pgc rfl Cs.non) pa_nil)) (pv 1))) rfl)
      (pss_one (ps_fld (pv 0) (pe_op op_rep (pe_lst (pa_cons (pgc rfl Cs.non) pa_nil)) (pv 1)) rfl)), ?_⟩
    refine ⟨_, rfl, (n : Int), rfl, by omega, by omega, fun D hD => lc_range (fun i H' => ∃ as : List Addr, H' D = some (.lst (as.map V.ref)) ∧ as.length = i ∧ as.Nodup ∧ Same H H' ∧ ∀ a ∈ as, H' a = some (.lst ((List.replicate n 1).map nV)) ∧ H a = none ∧ a ≠ D) ⟨[], upd_same, rfl, List.nodup_nil, (Same.refl H).upd hD, fun a ha => by cases ha⟩
      (fun i H' hi hp => ?_) fun H' hp => ?_⟩
    · obtain ⟨as, hD1, hl, hnd, s1, hrow⟩ := hp
      refine ⟨rfl, tyes ⟨by show 1 ≤ sizeLine; decide, fun p1 hp1 => ⟨_, rfl, p1, _, _, rfl, rfl, upd_same, by omega, by omega, hz _ (by simp; omega), fun p2 hp2 => ?_⟩⟩⟩
      have s2 : Same H' (upd H' p1 (.lst [.int 1])) := (Same.refl H').upd hp1
      have hp2' : H' p2 = none := s2.free hp2
      have s3 := s2.upd (o := .lst (List.replicate (((n : Nat) : Int)).toNat [V.int 1]).flatten) hp2'
      have n2D : p2 ≠ D := fun z => by rw [z, hD1] at hp2'; cases hp2'
      refine ⟨as.map V.ref, s3 _ _ hD1, small (by rw [List.length_map]; have : (n : Int).toNat = n := by omega
                                                  omega), as ++ [p2], by rw [upd_same, List.map_append]; rfl, by simp [hl], ?_, ?_, fun a ha => ?_⟩
      · rw [List.nodup_append]
        refine ⟨hnd, by simp, fun x hx y hy => ?_⟩
        rw [List.mem_singleton] at hy; subst hy
        intro z; rw [z] at hx
        have := (hrow y hx).1
        rw [hp2'] at this; cases this
      · exact SameQ.same (s1.trans s3) hD SameQ.put
      · rcases List.mem_append.mp ha with ha | ha
        · obtain ⟨q1, q2, q3⟩ := hrow a ha
          exact ⟨by rw [upd_ne q3]; exact s3 _ _ q1, q2, q3⟩
        · rw [List.mem_singleton] at ha; subst ha
          exact ⟨by rw [upd_ne n2D, upd_same, e2], s1.free hp2', n2D⟩
    · obtain ⟨as, hD1, hl, hnd, s1, hrow⟩ := hp
      have hl : as.length = n := by rw [hl]; omega
      refine ⟨_, rfl, p, C, dx, _, rfl, s1 _ _ h1, T.cl, T.nT, by rw [pf_len]; decide, ?_⟩
      rw [pf_setT]
      refine ⟨by show 1 ≤ sizeLine; decide, fun p1 hp1 => ⟨_, rfl, p1, _, _, rfl, rfl, upd_same, by omega, by omega, hz _ (by simp; omega), fun p2 hp2 => ?_⟩⟩
      have npD : p ≠ D := fun z => by rw [← z, h1] at hD; cases hD
      have np1 : p ≠ p1 := ne_of_none upd_same hp1
      have hp1' : H' p1 = none := by rw [upd_ne np1.symm] at hp1; exact hp1
      have n12 : p1 ≠ p2 := ne_of_none upd_same hp2
      have np2 : p ≠ p2 := ne_of_none (o := .ins C dx (pf D pa)) (by rw [upd_ne np1]; exact upd_same) hp2
      have hp2' : H' p2 = none := by rw [upd_ne n12.symm, upd_ne np2.symm] at hp2; exact hp2
      refine ⟨_, rfl, p, C, dx, pf D pa, rfl, ?_, T.cl, T.nP, by rw [pf_len]; decide, ?_⟩
      · rw [upd_ne np2, upd_ne np1]; exact upd_same
      rw [pf_setP]
      have nD1 : D ≠ p1 := ne_of_none hD1 hp1'
      have nD2 : D ≠ p2 := ne_of_none hD1 hp2'
      refine k _ (p :: D :: p2 :: as) ⟨dx, D, p2, as, rfl, upd_same, ?_, ?_, ?_, ?_⟩ ⟨fun b o e hb => ?_, fun b hb => ?_⟩
      · rw [upd_ne npD.symm, upd_ne nD2, upd_ne nD1, upd_ne npD.symm]; exact hD1
      · rw [upd_ne np2.symm, upd_same, e2]; rfl
      · show Paired (RowL _) as (List.replicate n (List.replicate n 1))
        rw [← hl]
        refine pr_rep fun a ha => ?_
        obtain ⟨q1, q2, q3⟩ := hrow a ha
        have a1 : a ≠ p := fun z => by rw [z, h1] at q2; cases q2
        show upd _ _ _ a = _
        rw [upd_ne a1, upd_ne (ne_of_none q1 hp2'), upd_ne (ne_of_none q1 hp1'), upd_ne a1, q1, hl]
      · refine List.nodup_cons.mpr ⟨fun z => ?_, List.nodup_cons.mpr ⟨fun z => ?_, hnd⟩⟩
        · rcases List.mem_cons.mp z with z | z
          · exact nD2 z
          · exact (hrow D z).2.2 rfl
        · have := (hrow p2 z).1
          rw [hp2'] at this; cases this
      · have bp : b ≠ p := fun z => hb (by rw [hF, z]; simp)
        have e' := s1 _ _ e
        rw [upd_ne bp, upd_ne (ne_of_none e' hp2'), upd_ne (ne_of_none e' hp1'), upd_ne bp]; exact e'
      · rcases List.mem_cons.mp hb with z | z
        · left; rw [hF, z]; simp
        · rcases List.mem_cons.mp z with z | z
          · right; rw [z]; exact hD
          · rcases List.mem_cons.mp z with z | z
            · right; rw [z]; exact s1.free hp2'
            · right; exact (hrow b z).2.1
abbrev sChs : Stmt := top 17
abbrev sOne : Stmt := top 18
abbrev sWo : Stmt := top 19
def nOne : List Str := ["number", "quantity", "sign"]
theorem scOne : FnScope nOne nOne (defScope sOne) := ⟨rfl, rfl, rfl, by decide +kernel, rfl, by decide +kernel, by decide +kernel⟩
def spOne : Sp := fun vs H Q _ => ∃ (n i s : Nat), vs = [nV n, nV i, nV s] ∧ n ≤ 5 ∧ i < n ∧
  ∀ (H' : Hp) (r : Addr), Same H H' → H r = none → H' r = some (.lst (((List.replicate n 1).set i s).map nV)) → Q (.ref r) H'
theorem c_one (F : Fun K "one_push" "one_push" sOne f fd) (hm : mg "one_push" = some (.ref f)) (Cs : Cst mg) (cW : Cal P w K mg base 1 "with_place" ["whole", "place", "part"] (spWith K)) : Cal P w K mg base 2 "one_push" nOne spOne := by
  refine ⟨f, fd, F.ok scOne (fun vs H Q E h => ?_) (fun cdv A outer s H vs Q E hr h => ?_), hm, F.kp, F.binds fun _ _ _ _ _ _ us hl => match us, hl with | [_, _, _], _ => rfl⟩
  · obtain ⟨_, _, _, rfl, _⟩ := h; rfl
  · obtain ⟨n, i, s, rfl, hn, hi, k⟩ := h
    refine ⟨_, pss_one (ps_ret (pcall cW hr (Nat.le_refl _) rfl (pa_cons (pe_op op_rep (pe_lst (pa_cons (pgc rfl Cs.non) pa_nil)) (pv 0)) (pa_cons (pv 1) (pa_cons (pv 2) pa_nil))))), ?_⟩
    refine ⟨by show 1 ≤ sizeLine; decide, fun p1 hp1 => ?_⟩
    have s1 : Same H (upd H p1 (.lst [.int 1])) := (Same.refl H).upd hp1
    refine ⟨_, rfl, p1, _, _, rfl, rfl, upd_same, by omega, by omega, Nat.le_of_lt (small (by simp; omega)), fun p2 hp2 => ?_⟩
    have e2 : (List.replicate (((n : Nat) : Int)).toNat [V.int 1]).flatten = (List.replicate n 1).map nV := by
      rw [Int.toNat_natCast, rep_flat]; exact rep_map n 1
    have hp2' := s1.free hp2
    have s2 := s1.upd (o := .lst (List.replicate (((n : Nat) : Int)).toNat [V.int 1]).flatten) hp2'
    refine ⟨_, rfl, _, rfl, p2, (List.replicate n 1).map nV, i, nV s, rfl, SqL.of (by rw [upd_same, e2]), by simpa using hi, by simp; omega, fun H' r s3 hr0 hr1 => ?_⟩
    refine k H' r (s2.trans s3) (s2.free hr0) ?_
    rw [hr1, set_map]
def nWo : List Str := ["table", "acting", "upon"]
theorem scWo : FnScope nWo nWo (defScope sWo) := ⟨rfl, rfl, rfl, by decide +kernel, rfl, by decide +kernel, by decide +kernel⟩
def spWo (K : PySem.W.Frag) : Sp := fun vs H Q _ => ∃ (a : Addr) (h : House) (j i : Nat), vs = [.ref a, nV j, nV i] ∧ TabAt K H a h.on ∧ Wf h ∧ j < h.n ∧ i < h.n ∧
  ∀ (H' : Hp) (r : Addr), Same H H' → H r = none → TabAt K H' r (h.without i j).on → Q (.ref r) H'
theorem pr_set {α β : Type} {R : α → β → Prop} : ∀ {xs : List α} {ys : List β} {i : Nat} {x : α} {y : β}, Paired R xs ys → R x y → Paired R (xs.set i x) (ys.set i y)
  | _, _, _, _, _, .nil, _ => .nil
  | _, _, 0, _, _, .cons _ t, r => .cons r t
  | _, _, i + 1, _, _, .cons q t, r => .cons q (pr_set t r)
theorem c_wo (F : Fun K "table_without" "table_without" sWo f fd) (hm : mg "table_without" = some (.ref f)) (Cs : Cst mg) (cW : Cal P w K mg base 1 "with_place" ["whole", "place", "part"] (spWith K)) : Cal P w K mg base 2 "table_without" nWo (spWo K) := by
  refine ⟨f, fd, F.ok scWo (fun vs H Q E h => ?_) (fun cdv A outer s H vs Q E hr h => ?_), hm, F.kp, F.binds fun _ _ _ _ _ _ us hl => match us, hl with | [_, _, _], _ => rfl⟩
  · obtain ⟨_, _, _, _, rfl, _⟩ := h; rfl
  · obtain ⟨ta, h, j, i, rfl, ⟨vs, h2, h4⟩, wf, hj, hi, k⟩ := h
    have hl := pr_len h4
    have hi2 : i < vs.length := by rw [hl, wf.len]; exact hi
    obtain ⟨v, hv⟩ : ∃ v, vs[i]? = some v := ⟨_, List.getElem?_eq_getElem hi2⟩
    obtain ⟨row, hrow, a, rfl, hra⟩ := pr_get' h4 hv
    have hrl := wf.sq row (List.mem_of_getElem? hrow)
    have hn5 := wf.n5
    refine ⟨_, pss_one (ps_ret (pcall cW hr (Nat.le_refl _) rfl (pa_cons (pv 0) (pa_cons (pv 2) (pa_cons (pcall cW hr (Nat.le_refl _) rfl (pa_cons (pe_ix ix_list (pv 0) (pv 2) (fun _ _ => rfl)) (pa_cons (pv 1) (pa_cons (pgc rfl Cs.non) pa_nil)))) pa_nil))))), ?_⟩
    refine ⟨_, rfl, _, rfl, _, rfl, _, rfl, ta, _, _, _, rfl, rfl, h2, atI_nat hv, _, rfl, ?_⟩
    refine ⟨a, row.map nV, j, nV 1, rfl, hra, by rw [List.length_map]; omega, by rw [List.length_map]; omega, fun H1 r1 s1 hr0 hr1 => ?_⟩
    refine ⟨ta, vs, i, .ref r1, rfl, s1.seq h2, hi2, by rw [hl, wf.len]; omega, fun H2 r2 s2 hq0 hq1 => ?_⟩
    refine k H2 r2 (s1.trans s2) (s1.free hq0) ⟨_, SqL.of hq1, ?_⟩
    have e : h.on.getD i [] = row := by rw [List.getD_eq_getElem?_getD, hrow]; rfl
    show Paired (RowAt K H2) _ (h.on.set i ((h.on.getD i []).set j 1))
    rw [e]
    refine pr_set (pr_imp h4 fun _ _ z => z.same (s1.trans s2)) ⟨r1, rfl, SqL.of ?_⟩
    rw [s2 _ _ hr1, set_map]
def nChs : List Str := ["table", "pushes", "whole", "quantity"]
theorem scChs : FnScope nChs ["table", "pushes"] (defScope sChs) := ⟨rfl, rfl, rfl, by decide +kernel, rfl, by decide +kernel, by decide +kernel⟩
def spChs (K : PySem.W.Frag) : Sp := fun vs H Q _ => ∃ (a b : Addr) (T : List (List Nat)) (n : Nat) (Ps : List Nat), vs = [.ref a, .ref b] ∧ TabAt K H a T ∧ n ≤ 5 ∧ T.length = n ∧ Sq n T ∧ SqL K H b (Ps.map nV) ∧ Ps.length = n ∧ (∀ x ∈ Ps, x ≤ 2) ∧
  ∀ (H' : Hp) (r : Addr), Same H H' → H r = none → H' r = some (.lst (((List.range n).map fun j => changeM T Ps j).map nV)) → Q (.ref r) H'
theorem c_chs (F : Fun K "changes" "changes" sChs f fd) (hm : mg "changes" = some (.ref f)) (B : Blt mg) (cD : Cal P w K mg base 4 "determinant" ["table"] (spDet K)) (cC : Cal P w K mg base 5 "change" ["table", "whole", "pushes", "quantity"] (spChange K)) :
    Cal P w K mg base 6 "changes" ["table", "pushes"] (spChs K) := by
  refine ⟨f, fd, F.ok scChs (fun vs H Q E h => ?_) (fun cdv A outer s H vs Q E hr h => ?_), hm, F.kp, F.binds fun _ _ _ _ _ _ us hl => match us, hl with | [_, _], _ => rfl⟩
  · obtain ⟨_, _, _, _, _, rfl, _⟩ := h; rfl
  · obtain ⟨a, b, T, n, Ps, rfl, hA, hn, hTl, hT, hb, hPl, hP2, k⟩ := h
    refine ⟨_, pss_cons (ps_set (i := 2) scChs.nd rfl (Or.inr rfl) (pcall cD hr (by decide) rfl (pa_cons (pv 0) pa_nil)))
      (pss_one (ps_ret (pe_lc rfl scChs.nd (pi_range1 rfl B.range (pa_cons (pe_callB call_len_seq (by rfl) B.len PySem.boot_len (pa_cons (pv 0) pa_nil)) pa_nil)) (blkOk_by (N := nChs) (sc := defScope sChs) (own := [("quantity", 3)]) (by decide +kernel)) (fun _ _ _ _ _ => pg_name (i := 3) scChs.nd rfl (Or.inl rfl) (Or.inr rfl))
        (fun _ _ _ _ _ => pts_nil) (fun _ _ _ _ _ => pcall cC hr (Nat.le_refl _) rfl (pa_cons (pv 0) (pa_cons (pv 2) (pa_cons (pv 1) (pa_cons (pv 3) pa_nil)))))))), ?_⟩
    refine ⟨_, rfl, a, T, n, rfl, hA, hn, hTl, hT, fun H1 s1 => ?_⟩
    obtain ⟨vs, hvs, hpr⟩ := id (hA.same s1)
    have hvl := pr_len hpr
    refine ⟨_, rfl, a, vs, rfl, .inl hvs, (n : Int), by rw [show (vs.length : Int) = (n : Int) by omega], by omega, by omega, fun D hD => lc_range (fun i H' => H' D = some (.lst (((List.range i).map fun j => changeM T Ps j).map nV)) ∧ Same H1 H') ⟨upd_same, (Same.refl H1).upd hD⟩ (fun i H' hi hp => ?_) fun H' hp => ?_⟩
    · refine ⟨rfl, tyes ⟨_, rfl, _, rfl, _, rfl, _, rfl, ?_⟩⟩
      have s2 := s1.trans hp.2
      refine ⟨a, b, T, Ps, i, n, by simp, hA.same s2, hn, hTl, hT, s2.seq hb, hPl, hP2, by omega, fun H2 s3 => ?_⟩
      refine ⟨_, s3 _ _ hp.1, small (by simp; omega), ?_, (hp.2.trans s3).upd hD⟩
      rw [upd_same, List.range_succ, List.map_append, List.map_append]; rfl
    · rw [show ((n : Nat) : Int).toNat = n by omega] at hp
      exact k H' D (s1.trans hp.2) (s1.free hD) hp.1
end
end My


end
section
set_option Elab.async false
set_option linter.all false
set_option maxRecDepth 100000
set_option maxHeartbeats 4000000
namespace My
open PySem PySem.Spec PyProof.Rows L2
open Kri4 (times turned turnedSet)
open Kri8 (House)
def tabOf (n : Nat) (f : Nat → Nat → Nat) : List (List Nat) := (List.range n).map fun k => (List.range n).map fun j => f k j
theorem tab_len (n : Nat) (f : Nat → Nat → Nat) : (tabOf n f).length = n := by simp [tabOf]
theorem tab_row {n k : Nat} (f : Nat → Nat → Nat) (hk : k < n) : (tabOf n f)[k]? = some ((List.range n).map fun j => f k j) := by
  unfold tabOf; rw [List.getElem?_map, List.getElem?_range hk]; rfl
theorem tab_at {n k j : Nat} (f : Nat → Nat → Nat) (ps : List Nat) (hk : k < n) (hj : j < n) : (House.mk (tabOf n f) ps).at_ k j = f k j := by
  unfold House.at_
  show ((tabOf n f).getD k []).getD j 1 = f k j
  rw [List.getD_eq_getElem?_getD (l := tabOf n f), tab_row f hk]
  show ((List.range n).map fun j => f k j).getD j 1 = f k j
  rw [List.getD_eq_getElem?_getD, List.getElem?_map, List.getElem?_range hj]; rfl
theorem tab_congr {n : Nat} {f g : Nat → Nat → Nat} (h : ∀ k j, k < n → j < n → f k j = g k j) : tabOf n f = tabOf n g := by
  unfold tabOf
  refine List.map_congr_left fun k hk => List.map_congr_left fun j hj => h k j (List.mem_range.mp hk) (List.mem_range.mp hj)
theorem tab_ext {n : Nat} {T : List (List Nat)} {f : Nat → Nat → Nat} (hl : T.length = n) (hr : ∀ (k : Nat) (row : List Nat), T[k]? = some row → row.length = n) (hf : ∀ (k : Nat) (row : List Nat), T[k]? = some row → ∀ (j x : Nat), row[j]? = some x → x = f k j) : T = tabOf n f := by
  refine List.ext_getElem? fun k => ?_
  by_cases hk : k < n
  · rw [tab_row f hk, List.getElem?_eq_getElem (by omega)]
    congr 1
    have hrow : T[k]? = some T[k] := List.getElem?_eq_getElem (by omega)
    have hlen := hr k _ hrow
    refine List.ext_getElem? fun j => ?_
    by_cases hj : j < n
    · rw [List.getElem?_map, List.getElem?_range hj, List.getElem?_eq_getElem (by omega)]
      exact congrArg some (hf k _ hrow j _ (List.getElem?_eq_getElem (by omega)))
    · rw [List.getElem?_eq_none (by omega), List.getElem?_eq_none (by simp; omega)]
  · rw [List.getElem?_eq_none (by omega), List.getElem?_eq_none (by rw [tab_len]; omega)]
theorem tab_self {h : House} (wf : Wf h) : h.on = tabOf h.n h.at_ := by
  refine tab_ext wf.len (fun k row hr => (wf.sq row (List.mem_of_getElem? hr)).1) fun k row hr j x hx => ?_
  have hk : k < h.n := by rw [← wf.len]; exact (List.getElem?_eq_some_iff.mp hr).1
  rw [at_row wf hk hr j, List.getD_eq_getElem?_getD, hx]; rfl
theorem tab_set {n k j s : Nat} (f : Nat → Nat → Nat) (ps : List Nat) (hk : k < n) (hj : j < n) : (House.mk (tabOf n f) ps).set k j s = House.mk (tabOf n fun a b => if a = k ∧ b = j then s else f a b) ps := by
  unfold House.set
  congr 1
  show (tabOf n f).set k (((tabOf n f).getD k []).set j s) = _
  rw [List.getD_eq_getElem?_getD, tab_row f hk]
  refine tab_ext (by rw [List.length_set, tab_len]) (fun k' row hr => ?_) fun k' row hr j' x hx => ?_
  · by_cases e : k = k'
    · subst e
      rw [List.getElem?_set_self (by rw [tab_len]; exact hk)] at hr
      cases hr; simp
    · rw [List.getElem?_set_ne e] at hr
      have hk' : k' < n := by have := (List.getElem?_eq_some_iff.mp hr).1; rw [tab_len] at this; exact this
      rw [tab_row f hk'] at hr; cases hr; simp
  · by_cases e : k = k'
    · subst e
      rw [List.getElem?_set_self (by rw [tab_len]; exact hk)] at hr
      cases hr
      by_cases e2 : j = j'
      · subst e2
        rw [List.getElem?_set_self (by simpa using hj)] at hx
        rw [if_pos ⟨rfl, rfl⟩]; exact (Option.some.inj hx).symm
      · rw [List.getElem?_set_ne e2] at hx
        rw [if_neg (fun z => e2 z.2.symm)]
        obtain ⟨e3, h3, rfl⟩ := map_at (show ((List.range n).map fun j => f k j)[j']? = some x from hx)
        have : e3 = j' := by
          have hj' := (List.getElem?_eq_some_iff.mp h3).1
          rw [List.length_range] at hj'
          rw [List.getElem?_range hj'] at h3
          exact (Option.some.inj h3).symm
        rw [this]
    · rw [List.getElem?_set_ne e] at hr
      have hk' : k' < n := by have := (List.getElem?_eq_some_iff.mp hr).1; rw [tab_len] at this; exact this
      rw [tab_row f hk'] at hr; cases hr
      rw [if_neg (fun z => e z.1.symm)]
      obtain ⟨e3, h3, rfl⟩ := map_at hx
      have : e3 = j' := by
        have hj' := (List.getElem?_eq_some_iff.mp h3).1
        rw [List.length_range] at hj'
        rw [List.getElem?_range hj'] at h3
        exact (Option.some.inj h3).symm
      rw [this]
theorem tab_sq {n : Nat} {f : Nat → Nat → Nat} (hf : ∀ k j, k < n → j < n → f k j ≤ 2) : Sq n (tabOf n f) := by
  intro r hr
  obtain ⟨k, hk, rfl⟩ := List.mem_map.mp hr
  refine ⟨by simp, fun x hx => ?_⟩
  obtain ⟨j, hj, rfl⟩ := List.mem_map.mp hx
  exact hf k j (List.mem_range.mp hk) (List.mem_range.mp hj)
theorem tab_wf {n : Nat} {f : Nat → Nat → Nat} {ps : List Nat} (hn : n ≤ 5) (hps : ps.length = n) (hf : ∀ k j, k < n → j < n → f k j ≤ 2) (hp : ∀ x ∈ ps, x ≤ 2) : Wf (House.mk (tabOf n f) ps) := by
  have e : (House.mk (tabOf n f) ps).n = n := hps
  exact ⟨by rw [e]; exact hn, by rw [e]; exact tab_len n f, by rw [e]; exact tab_sq hf, hp⟩
theorem at_le {h : House} (wf : Wf h) (k j : Nat) (hk : k < h.n) (hj : j < h.n) : h.at_ k j ≤ 2 := by
  have hk2 : k < h.on.length := by rw [wf.len]; exact hk
  have hrow : h.on[k]? = some h.on[k] := List.getElem?_eq_getElem hk2
  have hq := wf.sq _ (List.mem_of_getElem? hrow)
  rw [at_row wf hk hrow, List.getD_eq_getElem?_getD, List.getElem?_eq_getElem (by omega)]
  exact hq.2 _ (List.getElem_mem _)
theorem push_le {h : House} (wf : Wf h) {i : Nat} (hi : i < h.n) : h.push.getD i 1 ≤ 2 := by
  have : i < h.push.length := hi
  rw [List.getD_eq_getElem?_getD, List.getElem?_eq_getElem this]
  exact wf.psh _ (List.getElem_mem _)
def turnF (h : House) (i m k j : Nat) : Nat := if (k ≠ i ∧ j = i ∧ k < m) ∨ (k = i ∧ j ≠ i ∧ j < m) then turned (h.at_ k j) else h.at_ k j
theorem turnF_le {h : House} (wf : Wf h) (i m k j : Nat) (hk : k < h.n) (hj : j < h.n) : turnF h i m k j ≤ 2 := by
  unfold turnF; split
  · exact Mth.turned_le _
  · exact at_le wf k j hk hj
section
variable {P : Program} {w : World} {K : PySem.W.Frag} {mg : Str → Option Value} {base : Heap} {f C : Addr} {fd : FuncData}
def nTurn : List Str := ["self", "quantity", "other"]
theorem scTurn : FnScope nTurn ["self", "quantity"] (defScope mTurn) := ⟨rfl, rfl, rfl, by decide +kernel, rfl, by decide +kernel, by decide +kernel⟩
def spTurn (C : Addr) : Sp := fun vs H Q _ => ∃ (p : Addr) (F : List Addr) (h : House) (i : Nat), vs = [.ref p, nV i] ∧ PlantAt C H p F h ∧ Wf h ∧ i < h.n ∧
  ∀ H' : Hp, PlantAt C H' p F (h.turns i) → SameBut F H H' → Q .non H'
theorem m_turn (F : Fun K "turn" "Plant.turn" mTurn f fd) (M : Meth K C "turn" f) (T : Txt K C) (B : Blt mg) (mS : MCal P w K mg base C 1 "size" ["self"] (spSize C)) (cU : Cal P w K mg base 1 "turned" ["sign"] spTurned) :
    MCal P w K mg base C 2 "turn" ["self", "quantity"] (spTurn C) := by
  refine ⟨f, fd, F.ok scTurn (fun vs H Q E h => ?_) (fun cdv A outer s H vs Q E hr h => ?_), M, F.binds fun _ _ _ _ _ _ us hl => match us, hl with | [_, _], _ => rfl⟩
  · obtain ⟨_, _, _, _, rfl, _⟩ := h; rfl
  · obtain ⟨p, F, h, i, rfl, hP, wf, hi, k⟩ := h
    obtain ⟨dx, ta, pa, as, hF, h1, h2, h4, _⟩ := hP.tab
    have hn5 := wf.n5
    refine ⟨_, pss_cons (ps_for PassesOwn.never rfl (pi_range1 rfl B.range (pa_cons (pmeth0 mS T hr (Nat.le_refl _) (pv 0)) pa_nil)) (pg_name (i := 2) scTurn.nd rfl (Or.inl rfl))
        (pss_one (ps_if (pt_cmpR op_ne (pv 2) (pv 1) (nomark _))
          (pss_cons (ps_asg (pcall cU hr (Nat.le_refl _) rfl (pa_cons (pe_ix ix_list (pe_ix ix_list (pe_fld (pv 0) rfl) (pv 2) (fun _ _ => rfl)) (pv 1) (fun _ _ => rfl)) pa_nil)) (pg_sub (pe_ix ix_list (pe_fld (pv 0) rfl) (pv 2) (fun _ _ => rfl)) (pv 1) set_list))
          (pss_one (ps_asg (pcall cU hr (Nat.le_refl _) rfl (pa_cons (pe_ix ix_list (pe_ix ix_list (pe_fld (pv 0) rfl) (pv 1) (fun _ _ => rfl)) (pv 2) (fun _ _ => rfl)) pa_nil)) (pg_sub (pe_ix ix_list (pe_fld (pv 0) rfl) (pv 1) (fun _ _ => rfl)) (pv 2) set_list)))) pss_nil)))
      (pss_one (ps_asg (pcall cU hr (Nat.le_refl _) rfl (pa_cons (pe_ix ix_list (pe_fld (pv 0) rfl) (pv 1) (fun _ _ => rfl)) pa_nil)) (pg_sub (pe_fld (pv 0) rfl) (pv 1) set_list))), ?_⟩
    refine ⟨_, rfl, p, dx, _, rfl, h1, pf_no _ _ (by decide +kernel) (by decide +kernel), p, F, h, rfl, hP, by omega, ?_⟩
    refine ⟨(h.n : Int), rfl, by omega, by omega, for_range (fun m σ H' => ∃ o2 : Option V, σ = [some (.ref p), some (nV i), o2] ∧ PlantAt C H' p F ⟨tabOf h.n (turnF h i m), h.push⟩ ∧ SameBut F H H') ⟨none, rfl, ?_, fun b o e _ => e⟩ ?_ ?_⟩
    · have e : (⟨tabOf h.n (turnF h i 0), h.push⟩ : House) = h := by
        have e0 : tabOf h.n (turnF h i 0) = h.on := by
          rw [tab_self wf]
          refine tab_congr fun k j _ _ => ?_
          unfold turnF; rw [if_neg (by omega)]
        rw [e0]
      rw [e]; exact hP
    · rintro m σ H1 hm ⟨o2, rfl, hP1, sb1⟩
      have hm : m < h.n := by omega
      rw [Int.zero_add]
      have wf1 : Wf ⟨tabOf h.n (turnF h i m), h.push⟩ := tab_wf hn5 rfl (fun k j => turnF_le wf i m k j) wf.psh
      refine ⟨_, rfl, _, rfl, rfl, _, rfl, ?_⟩
      by_cases hmi : m = i
      · have e : (!decide (nV m = nV i)) = false := by rw [hmi]; simp
        rw [e]
        refine iteF ⟨_, rfl, ?_, sb1⟩
        have e2 : tabOf h.n (turnF h i (m + 1)) = tabOf h.n (turnF h i m) := tab_congr fun k j _ _ => by
          unfold turnF
          by_cases c1 : (k ≠ i ∧ j = i ∧ k < m + 1) ∨ (k = i ∧ j ≠ i ∧ j < m + 1)
          · rw [if_pos c1, if_pos (by omega)]
          · rw [if_neg c1, if_neg (by omega)]
        rw [e2]; exact hP1
      · have e : (!decide (nV m = nV i)) = true := by
          rw [decide_eq_false]; · rfl
          intro z; injection z with z; omega
        rw [e]
        refine iteT ?_
        obtain ⟨dx1, ta1, pa1, as1, a1, row1, hF1, g1, g2, ga, gr, grl, grj, gle, gset⟩ := hP1.cell (k := m) (j := i) wf1 hm hi
        rw [tab_at _ _ hm hi] at grj gle
        refine ⟨_, rfl, p, C, dx1, _, _, rfl, g1, T.cl, T.nT, pf_tab _ _, _, rfl, ta1, _, _, _, rfl, rfl, SqL.of g2, atI_nat (v := V.ref a1) (by rw [List.getElem?_map, ga]; rfl), _, rfl, a1, _, _, _, rfl, rfl, SqL.of gr, atI_nat (v := nV (turnF h i m m i)) (by rw [List.getElem?_map, grj]; rfl),
          turnF h i m m i, gle, rfl, ?_⟩
        refine ⟨_, rfl, p, C, dx1, _, _, rfl, g1, T.cl, T.nT, pf_tab _ _, _, rfl, ta1, _, _, _, rfl, rfl, SqL.of g2, atI_nat (v := V.ref a1) (by rw [List.getElem?_map, ga]; rfl), _, rfl, a1, _, _, i, rfl, rfl, gr, ixN_nat (by rw [List.length_map, grl]; exact hi), ?_⟩
        obtain ⟨hP2, sb2⟩ := gset (turned (turnF h i m m i))
        rw [tab_set _ _ hm hi] at hP2
        generalize upd H1 a1 (.lst ((row1.map nV).set i (nV (turned (turnF h i m m i))))) = H2 at hP2 sb2
        have wf2 : Wf ⟨tabOf h.n (fun a b => if a = m ∧ b = i then turned (turnF h i m m i) else turnF h i m a b), h.push⟩ := tab_wf hn5 rfl (fun k j hk hj => by
          show (if k = m ∧ j = i then _ else _) ≤ 2
          split
          · exact Mth.turned_le _
          · exact turnF_le wf i m k j hk hj) wf.psh
        obtain ⟨dx2, ta2, pa2, as2, a2, row2, hF2, f1, f2, fa, fr, frl, frj, fle, fset⟩ := hP2.cell (k := i) (j := m) wf2 hi hm
        rw [tab_at _ _ hi hm] at frj fle
        rw [if_neg (fun z => hmi z.1.symm)] at frj fle
        refine ⟨_, rfl, p, C, dx2, _, _, rfl, f1, T.cl, T.nT, pf_tab _ _, _, rfl, ta2, _, _, _, rfl, rfl, SqL.of f2, atI_nat (v := V.ref a2) (by rw [List.getElem?_map, fa]; rfl), _, rfl, a2, _, _, _, rfl, rfl, SqL.of fr, atI_nat (v := nV (turnF h i m i m)) (by rw [List.getElem?_map, frj]; rfl),
          turnF h i m i m, fle, rfl, ?_⟩
        refine ⟨_, rfl, p, C, dx2, _, _, rfl, f1, T.cl, T.nT, pf_tab _ _, _, rfl, ta2, _, _, _, rfl, rfl, SqL.of f2, atI_nat (v := V.ref a2) (by rw [List.getElem?_map, fa]; rfl), _, rfl, a2, _, _, m, rfl, rfl, fr, ixN_nat (by rw [List.length_map, frl]; exact hm), ?_⟩
        obtain ⟨hP3, sb3⟩ := fset (turned (turnF h i m i m))
        rw [tab_set _ _ hi hm] at hP3
        refine ⟨_, rfl, ?_, fun b o e hb => sb3 b o (sb2 b o (sb1 b o e hb) hb) hb⟩
        have e3 : tabOf h.n (turnF h i (m + 1)) = tabOf h.n (fun a b => if a = i ∧ b = m then turned (turnF h i m i m) else if a = m ∧ b = i then turned (turnF h i m m i) else turnF h i m a b) := tab_congr fun k j _ _ => by
          by_cases c1 : k = i ∧ j = m
          · rw [if_pos c1]
            obtain ⟨rfl, rfl⟩ := c1
            unfold turnF
            rw [if_pos (by omega), if_neg (by omega)]
          · rw [if_neg c1]
            by_cases c2 : k = m ∧ j = i
            · rw [if_pos c2]
              obtain ⟨rfl, rfl⟩ := c2
              unfold turnF
              rw [if_pos (by omega), if_neg (by omega)]
            · rw [if_neg c2]
              unfold turnF
              by_cases c3 : (k ≠ i ∧ j = i ∧ k < m + 1) ∨ (k = i ∧ j ≠ i ∧ j < m + 1)
              · rw [if_pos c3, if_pos (by omega)]
              · rw [if_neg c3, if_neg (by omega)]
        rw [e3]; exact hP3
    · rintro σ H1 ⟨o2, rfl, hP1, sb1⟩
      rw [show ((h.n : Nat) : Int).toNat = h.n by omega] at hP1
      have e1 : tabOf h.n (turnF h i h.n) = (h.turns i).on := by
        show tabOf h.n (turnF h i h.n) = tabOf h.n fun k j => h.turnedAt i k j
        refine tab_congr fun k j hk hj => ?_
        unfold turnF Kri8.House.turnedAt
        by_cases c1 : k = i <;> by_cases c2 : j = i
        · have b1 : (k == i) = true := beq_iff_eq.mpr c1
          have b2 : (j == i) = true := beq_iff_eq.mpr c2
          rw [b1, b2, if_neg (by omega), if_pos (by decide)]
        · have b1 : (k == i) = true := beq_iff_eq.mpr c1
          have b2 : (j == i) = false := beq_eq_false_iff_ne.mpr c2
          rw [b1, b2, if_pos (by omega), if_neg (by decide)]
        · have b1 : (k == i) = false := beq_eq_false_iff_ne.mpr c1
          have b2 : (j == i) = true := beq_iff_eq.mpr c2
          rw [b1, b2, if_pos (by omega), if_neg (by decide)]
        · have b1 : (k == i) = false := beq_eq_false_iff_ne.mpr c1
          have b2 : (j == i) = false := beq_eq_false_iff_ne.mpr c2
          rw [b1, b2, if_neg (by omega), if_pos (by decide)]
      rw [e1] at hP1
      obtain ⟨dx1, ta1, pa1, as1, hF1, g1, g3, _, gset, _⟩ := hP1.pushes
      refine ⟨_, rfl, p, C, dx1, _, _, rfl, g1, T.cl, T.nP, pf_psh _ _, _, rfl, pa1, _, _, _, rfl, rfl, SqL.of g3, atI_nat (push_at (h := h) hi), h.push.getD i 1, push_le wf hi, rfl, ?_⟩
      refine ⟨_, rfl, p, C, dx1, _, _, rfl, g1, T.cl, T.nP, pf_psh _ _, _, rfl, pa1, _, _, i, rfl, rfl, g3, ixN_nat (by rw [List.length_map]; exact hi), ?_⟩
      show Q .non (upd H1 pa1 (.lst ((h.push.map nV).set i (nV (turned (h.push.getD i 1))))))
      rw [set_map]
      exact k _ (gset _).1 fun b o e hb => (gset _).2 b o (sb1 b o e hb) hb
end
end My


end
section
set_option Elab.async false
set_option linter.all false
set_option maxRecDepth 100000
set_option maxHeartbeats 4000000
namespace My
open PySem PySem.Spec PyProof.Rows L2
open Kri4 (times turned turnedSet)
open Kri8 (House)
theorem PlantAt.there {C : Addr} {H : Hp} {p : Addr} {F : List Addr} {h : House} (x : PlantAt C H p F h) {b : Addr} (hb : b ∈ F) : ∃ o, H b = some o := by
  obtain ⟨dx, ta, pa, as, rfl, h1, h2, h3, h4, h5⟩ := x
  rcases List.mem_cons.mp hb with rfl | hb
  · exact ⟨_, h1⟩
  · rcases List.mem_cons.mp hb with rfl | hb
    · exact ⟨_, h2⟩
    · rcases List.mem_cons.mp hb with rfl | hb
      · exact ⟨_, h3⟩
      · obtain ⟨i, hi⟩ := List.mem_iff_getElem?.mp hb
        obtain ⟨row, _, hr⟩ := pr_get' h4 hi
        exact ⟨_, hr⟩
structure Fin9 (C : Addr) (H H' : Hp) (p : Addr) (F F' : List Addr) (h' : House) (r : Addr) : Prop where
  pl : PlantAt C H' p F' h'
  ch : Chg H H' F F'
  nr : r ∉ F'
  ne : ∀ b o, H b = some o → b ∉ F → b ≠ r
theorem fin9 {C : Addr} {H H' : Hp} {p r : Addr} {F F' : List Addr} {h' : House} {o : HO} (hP : PlantAt C H' p F' h') (ch : Chg H H' F F') (hr : H' r = none) : Fin9 C H (upd H' r o) p F F' h' r := by
  have s : Same H' (upd H' r o) := (Same.refl H').upd hr
  refine ⟨hP.same s, ⟨fun b u e hb => s _ _ (ch.but b u e hb), ch.new⟩, fun z => ?_, fun b u e hb => ne_of_none (ch.but b u e hb) hr⟩
  obtain ⟨u, hu⟩ := hP.there z
  rw [hr] at hu; cases hu
def spCmd (K : PySem.W.Frag) (C : Addr) (pre : House → List Nat → Prop) (post : House → List Nat → House) (ans : House → List Nat → List Int) : Sp := fun vs H Q _ => ∃ (p g : Addr) (F : List Addr) (h : House) (l : List Nat), vs = [.ref p, .ref g] ∧
  PlantAt C H p F h ∧ Wf h ∧ SqL K H g (l.map nV) ∧ pre h l ∧ ∀ (H' : Hp) (F' : List Addr) (r : Addr), Fin9 C H H' p F F' (post h l) r → H' r = some (.lst ((ans h l).map V.int)) → Q (.ref r) H'
abbrev nCmd : List Str := ["plant", "given"]
abbrev dBegin : Stmt := top 36
abbrev dAction : Stmt := top 37
abbrev dPush : Stmt := top 38
abbrev dCalm : Stmt := top 39
abbrev dTurn : Stmt := top 40
abbrev dDet : Stmt := top 41
abbrev dEnds : Stmt := top 42
abbrev dAll : Stmt := top 43
abbrev dIf : Stmt := top 44
abbrev dRow : Stmt := top 45
abbrev dWithout : Stmt := top 46
theorem one_le : (1 : Nat) ≤ sizeLine := by decide
abbrev Cmd (P : Program) (w : World) (K : PySem.W.Frag) (mg : Str → Option Value) (base : Heap) (k : Nat) (f : Addr) (sp : Sp) : Prop := ∃ fd, FnOk P w K mg base CX0 k f fd nCmd sp ∧ PySem.W.keepIn K (.ref f) = true ∧ Binds K fd nCmd []
section
variable {P : Program} {w : World} {K : PySem.W.Frag} {mg : Str → Option Value} {base : Heap} {f C : Addr} {fd : FuncData}
def qBegin (h : House) (l : List Nat) : Prop := ∃ n, l = [n] ∧ n ≤ 5
def pBegin (h : House) (l : List Nat) : House := fresh (l.getD 0 0)
theorem k_begin (F : Fun K "begin" "begin" dBegin f fd) (T : Txt K C) (m : MCal P w K mg base C 1 "begin" ["self", "number"] (spBegin C)) : Cmd P w K mg base 2 f (spCmd K C qBegin pBegin fun _ _ => [0]) := by
  have sc : FnScope nCmd nCmd (defScope dBegin) := ⟨rfl, rfl, rfl, by decide +kernel, rfl, by decide +kernel, by decide +kernel⟩
  refine ⟨fd, F.ok sc (fun vs H Q E h => ?_) (fun cdv A outer s H vs Q E hr h => ?_), F.kp, F.binds fun _ _ _ _ _ _ us hl => match us, hl with | [_, _], _ => rfl⟩
  · obtain ⟨_, _, _, _, _, rfl, _⟩ := h; rfl
  · obtain ⟨p, g, F, h, _, rfl, hP, wf, hg, ⟨n, rfl, hn⟩, k⟩ := h
    obtain ⟨dx, ta, pa, as, hF, h1, _, _, _⟩ := hP.tab
    refine ⟨_, pss_cons (ps_expr (pmeth m T hr (Nat.le_refl _) (pv 0) (pa_cons (pe_ix ix_list (pv 1) pe_int (fun _ _ => rfl)) pa_nil))) (pss_one (ps_ret (pe_lst (pa_cons pe_int pa_nil)))), ?_⟩
    refine ⟨_, rfl, p, dx, _, rfl, h1, pf_no _ _ (by decide +kernel) (by decide +kernel), _, rfl, g, _, _, _, rfl, rfl, hg, at_of (j := 0) rfl rfl, p, F, h, n, rfl, hP, hn, fun H' F' hP' ch => ⟨one_le, fun r hr => ?_⟩⟩
    exact k _ F' r (fin9 hP' ch hr) upd_same
def qAction (h : House) (l : List Nat) : Prop := ∃ j i s, l = [j, i, s] ∧ j < h.n ∧ i < h.n ∧ s ≤ 2
def pAction (h : House) (l : List Nat) : House := h.set (l.getD 1 0) (l.getD 0 0) (l.getD 2 0)
def aAction (h : House) (l : List Nat) : List Int := [(h.at_ (l.getD 1 0) (l.getD 0 0) : Int)]
theorem k_action (F : Fun K "action" "action" dAction f fd) (T : Txt K C) (m : MCal P w K mg base C 1 "set_action" ["self", "acting", "upon", "sign"] (spAct C)) : Cmd P w K mg base 2 f (spCmd K C qAction pAction aAction) := by
  have sc : FnScope nCmd nCmd (defScope dAction) := ⟨rfl, rfl, rfl, by decide +kernel, rfl, by decide +kernel, by decide +kernel⟩
  refine ⟨fd, F.ok sc (fun vs H Q E h => ?_) (fun cdv A outer s H vs Q E hr h => ?_), F.kp, F.binds fun _ _ _ _ _ _ us hl => match us, hl with | [_, _], _ => rfl⟩
  · obtain ⟨_, _, _, _, _, rfl, _⟩ := h; rfl
  · obtain ⟨p, g, F, h, _, rfl, hP, wf, hg, ⟨j, i, s, rfl, hj, hi, hs⟩, k⟩ := h
    obtain ⟨dx, ta, pa, as, hF, h1, _, _, _⟩ := hP.tab
    refine ⟨_, pss_one (ps_ret (pe_lst (pa_cons (pmeth m T hr (Nat.le_refl _) (pv 0) (pa_cons (pe_ix ix_list (pv 1) pe_int (fun _ _ => rfl)) (pa_cons (pe_ix ix_list (pv 1) pe_int (fun _ _ => rfl)) (pa_cons (pe_ix ix_list (pv 1) pe_int (fun _ _ => rfl)) pa_nil)))) pa_nil))), ?_⟩
    refine ⟨_, rfl, p, dx, _, rfl, h1, pf_no _ _ (by decide +kernel) (by decide +kernel), _, rfl, g, _, _, _, rfl, rfl, hg, at_of (j := 0) rfl rfl, _, rfl, g, _, _, _, rfl, rfl, hg, at_of (j := 1) rfl rfl, _, rfl, g, _, _, _, rfl, rfl, hg, at_of (j := 2) rfl rfl, p, F, h, j, i, s, rfl, hP, wf, hj, hi, fun H' hP' sb => ⟨one_le, fun r hr => ?_⟩⟩
    exact k _ F r (fin9 hP' ⟨sb, fun b hb => .inl hb⟩ hr) upd_same
def qPush (h : House) (l : List Nat) : Prop := ∃ i s, l = [i, s] ∧ i < h.n ∧ s ≤ 2
def pPush (h : House) (l : List Nat) : House := { h with push := h.push.set (l.getD 0 0) (l.getD 1 0) }
def aPush (h : House) (l : List Nat) : List Int := [(h.push.getD (l.getD 0 0) 1 : Int)]
theorem k_push (F : Fun K "push" "push" dPush f fd) (T : Txt K C) (m : MCal P w K mg base C 1 "set_push" ["self", "quantity", "sign"] (spPush C)) : Cmd P w K mg base 2 f (spCmd K C qPush pPush aPush) := by
  have sc : FnScope nCmd nCmd (defScope dPush) := ⟨rfl, rfl, rfl, by decide +kernel, rfl, by decide +kernel, by decide +kernel⟩
  refine ⟨fd, F.ok sc (fun vs H Q E h => ?_) (fun cdv A outer s H vs Q E hr h => ?_), F.kp, F.binds fun _ _ _ _ _ _ us hl => match us, hl with | [_, _], _ => rfl⟩
  · obtain ⟨_, _, _, _, _, rfl, _⟩ := h; rfl
  · obtain ⟨p, g, F, h, _, rfl, hP, wf, hg, ⟨i, s, rfl, hi, hs⟩, k⟩ := h
    obtain ⟨dx, ta, pa, as, hF, h1, _, _, _⟩ := hP.tab
    refine ⟨_, pss_one (ps_ret (pe_lst (pa_cons (pmeth m T hr (Nat.le_refl _) (pv 0) (pa_cons (pe_ix ix_list (pv 1) pe_int (fun _ _ => rfl)) (pa_cons (pe_ix ix_list (pv 1) pe_int (fun _ _ => rfl)) pa_nil))) pa_nil))), ?_⟩
    refine ⟨_, rfl, p, dx, _, rfl, h1, pf_no _ _ (by decide +kernel) (by decide +kernel), _, rfl, g, _, _, _, rfl, rfl, hg, at_of (j := 0) rfl rfl, _, rfl, g, _, _, _, rfl, rfl, hg, at_of (j := 1) rfl rfl, p, F, h, i, s, rfl, hP, hi, fun H' hP' sb => ⟨one_le, fun r hr => ?_⟩⟩
    exact k _ F r (fin9 hP' ⟨sb, fun b hb => .inl hb⟩ hr) upd_same
def qNil (h : House) (l : List Nat) : Prop := l = []
def pSame (h : House) (l : List Nat) : House := h
def pCalm (h : House) (l : List Nat) : House := { h with push := List.replicate h.n 1 }
def aCalm (h : House) (l : List Nat) : List Int := [((h.push.filter fun s => s != 1).length : Int)]
theorem k_calm (F : Fun K "calm" "calm" dCalm f fd) (T : Txt K C) (m : MCal P w K mg base C 2 "calm" ["self"] (spCalm C)) : Cmd P w K mg base 3 f (spCmd K C qNil pCalm aCalm) := by
  have sc : FnScope nCmd nCmd (defScope dCalm) := ⟨rfl, rfl, rfl, by decide +kernel, rfl, by decide +kernel, by decide +kernel⟩
  refine ⟨fd, F.ok sc (fun vs H Q E h => ?_) (fun cdv A outer s H vs Q E hr h => ?_), F.kp, F.binds fun _ _ _ _ _ _ us hl => match us, hl with | [_, _], _ => rfl⟩
  · obtain ⟨_, _, _, _, _, rfl, _⟩ := h; rfl
  · obtain ⟨p, g, F, h, _, rfl, hP, wf, hg, rfl, k⟩ := h
    obtain ⟨dx, ta, pa, as, hF, h1, _, _, _⟩ := hP.tab
    refine ⟨_, pss_one (ps_ret (pe_lst (pa_cons (pmeth0 m T hr (Nat.le_refl _) (pv 0)) pa_nil))), ?_⟩
    refine ⟨_, rfl, p, dx, _, rfl, h1, pf_no _ _ (by decide +kernel) (by decide +kernel), p, F, h, rfl, hP, wf.n5, fun H' F' hP' ch => ⟨one_le, fun r hr => ?_⟩⟩
    exact k _ F' r (fin9 hP' ch hr) upd_same
def qOne (h : House) (l : List Nat) : Prop := ∃ i, l = [i] ∧ i < h.n
def pTurn (h : House) (l : List Nat) : House := h.turns (l.getD 0 0)
theorem k_turn (F : Fun K "turn" "turn" dTurn f fd) (T : Txt K C) (m : MCal P w K mg base C 2 "turn" ["self", "quantity"] (spTurn C)) : Cmd P w K mg base 3 f (spCmd K C qOne pTurn fun _ _ => [0]) := by
  have sc : FnScope nCmd nCmd (defScope dTurn) := ⟨rfl, rfl, rfl, by decide +kernel, rfl, by decide +kernel, by decide +kernel⟩
  refine ⟨fd, F.ok sc (fun vs H Q E h => ?_) (fun cdv A outer s H vs Q E hr h => ?_), F.kp, F.binds fun _ _ _ _ _ _ us hl => match us, hl with | [_, _], _ => rfl⟩
  · obtain ⟨_, _, _, _, _, rfl, _⟩ := h; rfl
  · obtain ⟨p, g, F, h, _, rfl, hP, wf, hg, ⟨i, rfl, hi⟩, k⟩ := h
    obtain ⟨dx, ta, pa, as, hF, h1, _, _, _⟩ := hP.tab
    refine ⟨_, pss_cons (ps_expr (pmeth m T hr (Nat.le_refl _) (pv 0) (pa_cons (pe_ix ix_list (pv 1) pe_int (fun _ _ => rfl)) pa_nil))) (pss_one (ps_ret (pe_lst (pa_cons pe_int pa_nil)))), ?_⟩
    refine ⟨_, rfl, p, dx, _, rfl, h1, pf_no _ _ (by decide +kernel) (by decide +kernel), _, rfl, g, _, _, _, rfl, rfl, hg, at_of (j := 0) rfl rfl, p, F, h, i, rfl, hP, wf, hi, fun H' hP' sb => ⟨one_le, fun r hr => ?_⟩⟩
    exact k _ F r (fin9 hP' ⟨sb, fun b hb => .inl hb⟩ hr) upd_same
def aDet (h : House) (l : List Nat) : List Int := [(Mth.detM h.on : Int)]
theorem k_det (F : Fun K "det" "det" dDet f fd) (T : Txt K C) (c : Cal P w K mg base 4 "determinant" ["table"] (spDet K)) : Cmd P w K mg base 5 f (spCmd K C qNil pSame aDet) := by
  have sc : FnScope nCmd nCmd (defScope dDet) := ⟨rfl, rfl, rfl, by decide +kernel, rfl, by decide +kernel, by decide +kernel⟩
  refine ⟨fd, F.ok sc (fun vs H Q E h => ?_) (fun cdv A outer s H vs Q E hr h => ?_), F.kp, F.binds fun _ _ _ _ _ _ us hl => match us, hl with | [_, _], _ => rfl⟩
  · obtain ⟨_, _, _, _, _, rfl, _⟩ := h; rfl
  · obtain ⟨p, g, F, h, _, rfl, hP, wf, hg, rfl, k⟩ := h
    obtain ⟨dx, ta, pa, as, hF, h1, h2, h4, h3⟩ := hP.tab
    refine ⟨_, pss_one (ps_ret (pe_lst (pa_cons (pcall c hr (Nat.le_refl _) rfl (pa_cons (pe_fld (pv 0) rfl) pa_nil)) pa_nil))), ?_⟩
    refine ⟨_, rfl, p, C, dx, _, _, rfl, h1, T.cl, T.nT, pf_tab _ _, ta, h.on, h.n, rfl, ⟨_, SqL.of h2, pr_map h4⟩, wf.n5, wf.len, wf.sq, fun H' s1 => ⟨one_le, fun r hr => ?_⟩⟩
    exact k _ F r (fin9 (hP.same s1) (Chg.of_same s1) hr) upd_same
def aEnds (h : House) (l : List Nat) : List Int := [(changeM h.on h.push (l.getD 0 0) : Int)]
theorem k_ends (F : Fun K "ends" "ends" dEnds f fd) (T : Txt K C) (c : Cal P w K mg base 5 "change" ["table", "whole", "pushes", "quantity"] (spChange K)) (cD : Cal P w K mg base 4 "determinant" ["table"] (spDet K)) : Cmd P w K mg base 6 f (spCmd K C qOne pSame aEnds) := by
  have sc : FnScope nCmd nCmd (defScope dEnds) := ⟨rfl, rfl, rfl, by decide +kernel, rfl, by decide +kernel, by decide +kernel⟩
  refine ⟨fd, F.ok sc (fun vs H Q E h => ?_) (fun cdv A outer s H vs Q E hr h => ?_), F.kp, F.binds fun _ _ _ _ _ _ us hl => match us, hl with | [_, _], _ => rfl⟩
  · obtain ⟨_, _, _, _, _, rfl, _⟩ := h; rfl
  · obtain ⟨p, g, F, h, _, rfl, hP, wf, hg, ⟨i, rfl, hi⟩, k⟩ := h
    obtain ⟨dx, ta, pa, as, hF, h1, h2, h4, h3⟩ := hP.tab
    have hT : TabAt K H ta h.on := ⟨_, SqL.of h2, pr_map h4⟩
    refine ⟨_, pss_one (ps_ret (pe_lst (pa_cons (pcall c hr (Nat.le_refl _) rfl (pa_cons (pe_fld (pv 0) rfl) (pa_cons (pcall cD hr (by decide) rfl (pa_cons (pe_fld (pv 0) rfl) pa_nil)) (pa_cons (pe_fld (pv 0) rfl) (pa_cons (pe_ix ix_list (pv 1) pe_int (fun _ _ => rfl)) pa_nil))))) pa_nil))), ?_⟩
    refine ⟨_, rfl, p, C, dx, _, _, rfl, h1, T.cl, T.nT, pf_tab _ _, _, rfl, p, C, dx, _, _, rfl, h1, T.cl, T.nT, pf_tab _ _, ta, h.on, h.n, rfl, hT, wf.n5, wf.len, wf.sq, fun H1 s1 => ?_⟩
    refine ⟨_, rfl, p, C, dx, _, _, rfl, s1 _ _ h1, T.cl, T.nP, pf_psh _ _, _, rfl, g, _, _, _, rfl, rfl, s1.seq hg, at_of (j := 0) rfl rfl, ta, pa, h.on, h.push, i, h.n, rfl, hT.same s1, wf.n5, wf.len, wf.sq, SqL.of (s1 _ _ h3), rfl, wf.psh, hi, fun H2 s2 => ⟨one_le, fun r hr => ?_⟩⟩
    exact k _ F r (fin9 (hP.same (s1.trans s2)) (Chg.of_same (s1.trans s2)) hr) upd_same
theorem map_two (l : List Nat) (f : Nat → Nat) : (l.map f).map nV = (l.map fun j => (f j : Int)).map V.int := by
  rw [List.map_map, List.map_map]; rfl
def aAll (h : House) (l : List Nat) : List Int := (h.n : Int) :: (List.range h.n).map fun j => (changeM h.on h.push j : Int)
theorem k_all (F : Fun K "all_ends" "all_ends" dAll f fd) (T : Txt K C) (mS : MCal P w K mg base C 1 "size" ["self"] (spSize C)) (c : Cal P w K mg base 6 "changes" ["table", "pushes"] (spChs K)) : Cmd P w K mg base 7 f (spCmd K C qNil pSame aAll) := by
  have sc : FnScope nCmd nCmd (defScope dAll) := ⟨rfl, rfl, rfl, by decide +kernel, rfl, by decide +kernel, by decide +kernel⟩
  refine ⟨fd, F.ok sc (fun vs H Q E h => ?_) (fun cdv A outer s H vs Q E hr h => ?_), F.kp, F.binds fun _ _ _ _ _ _ us hl => match us, hl with | [_, _], _ => rfl⟩
  · obtain ⟨_, _, _, _, _, rfl, _⟩ := h; rfl
  · obtain ⟨p, g, F, h, _, rfl, hP, wf, hg, rfl, k⟩ := h
    obtain ⟨dx, ta, pa, as, hF, h1, h2, h4, h3⟩ := hP.tab
    have hT : TabAt K H ta h.on := ⟨_, SqL.of h2, pr_map h4⟩
    have hn := wf.n5
    refine ⟨_, pss_one (ps_ret (pe_op op_cat (pe_lst (pa_cons (pmeth0 mS T hr (by decide) (pv 0)) pa_nil)) (pcall c hr (Nat.le_refl _) rfl (pa_cons (pe_fld (pv 0) rfl) (pa_cons (pe_fld (pv 0) rfl) pa_nil))))), ?_⟩
    refine ⟨_, rfl, p, dx, _, rfl, h1, pf_no _ _ (by decide +kernel) (by decide +kernel), p, F, h, rfl, hP, by omega, one_le, fun p1 hp1 => ?_⟩
    have s1 : Same H (upd H p1 (.lst [nV h.n])) := (Same.refl H).upd hp1
    refine ⟨_, rfl, p, C, dx, _, _, rfl, s1 _ _ h1, T.cl, T.nT, pf_tab _ _, _, rfl, p, C, dx, _, _, rfl, s1 _ _ h1, T.cl, T.nP, pf_psh _ _, ta, pa, h.on, h.n, h.push, rfl, hT.same s1, hn, wf.len, wf.sq, SqL.of (s1 _ _ h3), rfl, wf.psh, fun H2 r2 s2 hr0 hr2 => ?_⟩
    refine ⟨p1, r2, _, _, rfl, rfl, s2 _ _ upd_same, hr2, Nat.le_of_lt (small (by simp; omega)), fun r hr => ?_⟩
    refine k _ F r (fin9 (hP.same (s1.trans s2)) (Chg.of_same (s1.trans s2)) hr) ?_
    rw [upd_same, map_two]; rfl
def qIf (h : House) (l : List Nat) : Prop := ∃ i s j, l = [i, s, j] ∧ i < h.n ∧ s ≤ 2 ∧ j < h.n
def aIf (h : House) (l : List Nat) : List Int := [(changeM h.on (h.alone (l.getD 0 0) (l.getD 1 0)) (l.getD 2 0) : Int)]
theorem alone_le {h : House} {i s : Nat} (hs : s ≤ 2) : (h.alone i s).length = h.n ∧ ∀ x ∈ h.alone i s, x ≤ 2 := by
  unfold House.alone
  refine ⟨by simp, fun x hx => ?_⟩
  rcases List.mem_or_eq_of_mem_set hx with hx | hx
  · have := List.eq_of_mem_replicate hx; omega
  · omega
def nIf : List Str := ["plant", "given", "pushes"]
theorem k_if (F : Fun K "if_pushed" "if_pushed" dIf f fd) (T : Txt K C) (mS : MCal P w K mg base C 1 "size" ["self"] (spSize C)) (cO : Cal P w K mg base 2 "one_push" nOne spOne) (cD : Cal P w K mg base 4 "determinant" ["table"] (spDet K)) (c : Cal P w K mg base 5 "change" ["table", "whole", "pushes", "quantity"] (spChange K)) :
    Cmd P w K mg base 6 f (spCmd K C qIf pSame aIf) := by
  have sc : FnScope nIf nCmd (defScope dIf) := ⟨rfl, rfl, rfl, by decide +kernel, rfl, by decide +kernel, by decide +kernel⟩
  refine ⟨fd, F.ok sc (fun vs H Q E h => ?_) (fun cdv A outer s H vs Q E hr h => ?_), F.kp, F.binds fun _ _ _ _ _ _ us hl => match us, hl with | [_, _], _ => rfl⟩
  · obtain ⟨_, _, _, _, _, rfl, _⟩ := h; rfl
  · obtain ⟨p, g, F, h, _, rfl, hP, wf, hg, ⟨i, s, j, rfl, hi, hs, hj⟩, k⟩ := h
    obtain ⟨dx, ta, pa, as, hF, h1, h2, h4, h3⟩ := hP.tab
    have hT : TabAt K H ta h.on := ⟨_, SqL.of h2, pr_map h4⟩
    have hn := wf.n5
    refine ⟨_, pss_cons (ps_set (i := 2) sc.nd rfl (Or.inl rfl) (pcall cO hr (by decide) rfl (pa_cons (pmeth0 mS T hr (by decide) (pv 0)) (pa_cons (pe_ix ix_list (pv 1) pe_int (fun _ _ => rfl)) (pa_cons (pe_ix ix_list (pv 1) pe_int (fun _ _ => rfl)) pa_nil)))))
      (pss_one (ps_ret (pe_lst (pa_cons (pcall c hr (Nat.le_refl _) rfl (pa_cons (pe_fld (pv 0) rfl) (pa_cons (pcall cD hr (by decide) rfl (pa_cons (pe_fld (pv 0) rfl) pa_nil)) (pa_cons (pv 2) (pa_cons (pe_ix ix_list (pv 1) pe_int (fun _ _ => rfl)) pa_nil))))) pa_nil)))), ?_⟩
    refine ⟨_, rfl, p, dx, _, rfl, h1, pf_no _ _ (by decide +kernel) (by decide +kernel), p, F, h, rfl, hP, by omega, _, rfl, g, _, _, _, rfl, rfl, hg, at_of (j := 0) rfl rfl, _, rfl, g, _, _, _, rfl, rfl, hg, at_of (j := 1) rfl rfl, h.n, i, s, rfl, hn, hi, fun H1 r1 s1 hr0 hr1 => ?_⟩
    refine ⟨_, rfl, p, C, dx, _, _, rfl, s1 _ _ h1, T.cl, T.nT, pf_tab _ _, _, rfl, p, C, dx, _, _, rfl, s1 _ _ h1, T.cl, T.nT, pf_tab _ _, ta, h.on, h.n, rfl, hT.same s1, hn, wf.len, wf.sq, fun H2 s2 => ?_⟩
    have s12 := s1.trans s2
    refine ⟨_, rfl, _, rfl, g, _, _, _, rfl, rfl, s12.seq hg, at_of (j := 2) rfl rfl, ta, r1, h.on, h.alone i s, j, h.n, rfl, hT.same s12, hn, wf.len, wf.sq, SqL.of (s2 _ _ hr1), (alone_le hs).1, (alone_le hs).2, hj, fun H3 s3 => ⟨one_le, fun r hr => ?_⟩⟩
    exact k _ F r (fin9 (hP.same (s12.trans s3)) (Chg.of_same (s12.trans s3)) hr) upd_same
def aRow (h : House) (l : List Nat) : List Int := (h.n : Int) :: (List.range h.n).map fun j => (changeM h.on (h.alone (l.getD 0 0) 2) j : Int)
theorem k_row (F : Fun K "row" "row" dRow f fd) (T : Txt K C) (Cs : Cst mg) (mS : MCal P w K mg base C 1 "size" ["self"] (spSize C)) (cO : Cal P w K mg base 2 "one_push" nOne spOne) (c : Cal P w K mg base 6 "changes" ["table", "pushes"] (spChs K)) :
    Cmd P w K mg base 7 f (spCmd K C qOne pSame aRow) := by
  have sc : FnScope nCmd nCmd (defScope dRow) := ⟨rfl, rfl, rfl, by decide +kernel, rfl, by decide +kernel, by decide +kernel⟩
  refine ⟨fd, F.ok sc (fun vs H Q E h => ?_) (fun cdv A outer s H vs Q E hr h => ?_), F.kp, F.binds fun _ _ _ _ _ _ us hl => match us, hl with | [_, _], _ => rfl⟩
  · obtain ⟨_, _, _, _, _, rfl, _⟩ := h; rfl
  · obtain ⟨p, g, F, h, _, rfl, hP, wf, hg, ⟨i, rfl, hi⟩, k⟩ := h
    obtain ⟨dx, ta, pa, as, hF, h1, h2, h4, h3⟩ := hP.tab
    have hT : TabAt K H ta h.on := ⟨_, SqL.of h2, pr_map h4⟩
    have hn := wf.n5
    refine ⟨_, pss_one (ps_ret (pe_op op_cat (pe_lst (pa_cons (pmeth0 mS T hr (by decide) (pv 0)) pa_nil)) (pcall c hr (Nat.le_refl _) rfl (pa_cons (pe_fld (pv 0) rfl) (pa_cons (pcall cO hr (by decide) rfl (pa_cons (pmeth0 mS T hr (by decide) (pv 0)) (pa_cons (pe_ix ix_list (pv 1) pe_int (fun _ _ => rfl)) (pa_cons (pgc rfl Cs.above) pa_nil)))) pa_nil))))), ?_⟩
    refine ⟨_, rfl, p, dx, _, rfl, h1, pf_no _ _ (by decide +kernel) (by decide +kernel), p, F, h, rfl, hP, by omega, one_le, fun p1 hp1 => ?_⟩
    have s1 : Same H (upd H p1 (.lst [nV h.n])) := (Same.refl H).upd hp1
    refine ⟨_, rfl, p, C, dx, _, _, rfl, s1 _ _ h1, T.cl, T.nT, pf_tab _ _, _, rfl, p, dx, _, rfl, s1 _ _ h1, pf_no _ _ (by decide +kernel) (by decide +kernel), p, F, h, rfl, hP.same s1, by omega, _, rfl, g, _, _, _, rfl, rfl, s1.seq hg, at_of (j := 0) rfl rfl, h.n, i, 2, rfl, hn, hi, fun H2 r2 s2 hr0 hr2 => ?_⟩
    refine ⟨ta, r2, h.on, h.n, h.alone i 2, rfl, hT.same (s1.trans s2), hn, wf.len, wf.sq, SqL.of hr2, (alone_le (by decide)).1, (alone_le (by decide)).2, fun H3 r3 s3 hq0 hr3 => ?_⟩
    have s4 := (s1.trans s2).trans s3
    refine ⟨p1, r3, _, _, rfl, rfl, s3 _ _ (s2 _ _ upd_same), hr3, Nat.le_of_lt (small (by simp; omega)), fun r hr => ?_⟩
    refine k _ F r (fin9 (hP.same s4) (Chg.of_same s4) hr) ?_
    rw [upd_same, map_two]; rfl
def qTwo (h : House) (l : List Nat) : Prop := ∃ j i, l = [j, i] ∧ j < h.n ∧ i < h.n
def aWithout (h : House) (l : List Nat) : List Int := [(Mth.detM (h.without (l.getD 1 0) (l.getD 0 0)).on : Int)]
theorem without_wf {h : House} (wf : Wf h) {i j : Nat} (hi : i < h.n) (hj : j < h.n) (s : Nat) (hs : s ≤ 2) : Wf (h.set i j s) := by
  have e : h = ⟨tabOf h.n h.at_, h.push⟩ := by rw [← tab_self wf]
  have en : h.n = h.push.length := rfl
  rw [e, tab_set _ _ hi hj]
  refine tab_wf wf.n5 rfl (fun k j' hk hj' => ?_) wf.psh
  show (if k = i ∧ j' = j then s else h.at_ k j') ≤ 2
  split
  · exact hs
  · exact at_le wf k j' hk hj'
theorem k_without (F : Fun K "without" "without" dWithout f fd) (T : Txt K C) (cW : Cal P w K mg base 2 "table_without" nWo (spWo K)) (c : Cal P w K mg base 4 "determinant" ["table"] (spDet K)) :
    Cmd P w K mg base 5 f (spCmd K C qTwo pSame aWithout) := by
  have sc : FnScope nCmd nCmd (defScope dWithout) := ⟨rfl, rfl, rfl, by decide +kernel, rfl, by decide +kernel, by decide +kernel⟩
  refine ⟨fd, F.ok sc (fun vs H Q E h => ?_) (fun cdv A outer s H vs Q E hr h => ?_), F.kp, F.binds fun _ _ _ _ _ _ us hl => match us, hl with | [_, _], _ => rfl⟩
  · obtain ⟨_, _, _, _, _, rfl, _⟩ := h; rfl
  · obtain ⟨p, g, F, h, _, rfl, hP, wf, hg, ⟨j, i, rfl, hj, hi⟩, k⟩ := h
    obtain ⟨dx, ta, pa, as, hF, h1, h2, h4, h3⟩ := hP.tab
    have hT : TabAt K H ta h.on := ⟨_, SqL.of h2, pr_map h4⟩
    have wf2 : Wf (h.without i j) := without_wf wf hi hj 1 (by decide)
    refine ⟨_, pss_one (ps_ret (pe_lst (pa_cons (pcall c hr (Nat.le_refl _) rfl (pa_cons (pcall cW hr (by decide) rfl (pa_cons (pe_fld (pv 0) rfl) (pa_cons (pe_ix ix_list (pv 1) pe_int (fun _ _ => rfl)) (pa_cons (pe_ix ix_list (pv 1) pe_int (fun _ _ => rfl)) pa_nil)))) pa_nil)) pa_nil))), ?_⟩
    refine ⟨_, rfl, p, C, dx, _, _, rfl, h1, T.cl, T.nT, pf_tab _ _, _, rfl, g, _, _, _, rfl, rfl, hg, at_of (j := 0) rfl rfl, _, rfl, g, _, _, _, rfl, rfl, hg, at_of (j := 1) rfl rfl, ta, h, j, i, rfl, hT, wf, hj, hi, fun H1 r1 s1 hr0 hr1 => ?_⟩
    refine ⟨r1, (h.without i j).on, (h.without i j).n, rfl, hr1, wf2.n5, wf2.len, wf2.sq, fun H' s2 => ⟨one_le, fun r hr => ?_⟩⟩
    exact k _ F r (fin9 (hP.same (s1.trans s2)) (Chg.of_same (s1.trans s2)) hr) upd_same
end
end My


end
section
set_option Elab.async false
set_option linter.all false
set_option maxRecDepth 100000
set_option maxHeartbeats 1000000
namespace L2
open PySem PySem.Spec PyProof.Rows
section
variable {X : Cx}
def rCount (K : PySem.W.Frag) : V → List V → Hp → VK → Prop := fun x xs H Q => ∃ (a : Addr) (ys : List V) (y : V), x = V.ref a ∧ xs = [y] ∧ SqL K H a ys ∧ flatV y = true ∧ ys.all flatV = true ∧ Q (.int ((ys.countP fun z => eqV z y : Nat) : Int)) H
theorem count_eq {y : V} : ∀ {ys : List V} {us : List Value}, Vals ys us → ys.all flatV = true → us.countP (eqU y) = ys.countP fun z => eqV z y
  | _, _, .nil, _ => rfl
  | x :: ys, u :: us, .cons r t, f => by
    rw [List.all_cons, Bool.and_eq_true] at f
    rw [List.countP_cons, List.countP_cons, count_eq t f.2, eqU_of r f.1]
theorem mt_count_list : MtR X "list.count" (rCount X.K) := by
  intro pins s σ H x xs v us Q I rx rxs h
  obtain ⟨a, ys, y, rfl, rfl, hs, fy, fys, q⟩ := h
  cases rx
  cases rxs with
  | cons ry rt =>
    rename_i uy ut
    cases rt
    obtain ⟨its, rv, ⟨⟨cls, dd, data, sl⟩, n, ho, hc, hdn, hd⟩, hlen⟩ := I.list hs
    simp only at hc hd
    subst hc hd
    refine call_meets PySem.F.slot_list_count ⟨_, ho, rfl⟩ PySem.F.entry_list_count (PySem.F.args_list_count_2 _ _) (SeqAt.list_countAt a its.toArray n dd sl uy (eqU y)) ⟨ho, fun u' hu' => mem_eqAt ry fy rv fys u' (by simpa using hu'), ?_⟩
    refine ⟨.int _, H, I.tok _, ⟨_, rfl⟩, ?_⟩
    have e : its.toArray.toList.countP (eqU y) = ys.countP fun z => eqV z y := count_eq rv fys
    rw [e]; exact q
theorem ext_tup (l b : Addr) (items items2 : Array Value) (n n2 : Nat) (dd : Option Addr) (sl : Array (Option Value)) (h0 : ¬ (!items.isEmpty && Builtin.List.listTooLong (items.size + items2.size)) = true) (h1 : items.size ≤ sizeLine) (h2 : items.size + items2.size ≤ sizeLine + 1) : Meets (Builtin.«list.extend» ⟨[.ref l, .ref b], []⟩)
    (fun _ R s => s.heap.get? l = some { cls := .type "list", data := .seq items n } ∧ s.heap.get? b = some { cls := .type "tuple", dict := dd, data := .seq items2 n2, slots := sl } ∧ R (.ok (.ret .none)) { s with heap := s.heap.update l (Obj.mapSeq fun x => x ++ items2) }) := .of_wp fun prog w A R s h => by
  obtain ⟨hp, g, d, tk, os⟩ := s
  obtain ⟨hl, hb, h⟩ := h
  have f2 := AutoSeq1.sub_tuple_tuple
  have f3 := AutoSeq1.sub_list_list
  have f4 := AutoSeq1.sub_tuple_list
  have f5 := AutoSeq1.sub_list_tuple
  have hz : (items ++ items2).size ≤ sizeLine + 1 := by rw [Array.size_append]; exact h2
  wp_walk using (wpAny_updateSeq hl rfl (hz := h1) (_hz' := hz)), AutoSeq1.wpAny_loadPart' hl, AutoSeq1.wpAny_loadPart' hb
  exact ⟨_, rfl, h⟩
def rExtendT : V → List V → Hp → VK → Prop := fun x vs H Q => ∃ l b xs zs, x = .ref l ∧ vs = [.ref b] ∧ H l = some (.lst xs) ∧ H b = some (.tup zs) ∧ xs.length + zs.length ≤ sizeLine ∧ Q .non (upd H l (.lst (xs ++ zs)))
theorem mt_extendT : MtM X "list.extend" rExtendT := by
  intro pins s σ H x vs v us Q I rx rv h
  obtain ⟨l, b, xs, zs, rfl, rfl, hH, hB, hz, q⟩ := h
  cases rx
  obtain ⟨u, rfl, ru⟩ := rv.one
  cases ru
  obtain ⟨z, its, n, r, hl, e⟩ := I.lstM hH
  obtain ⟨z2, its2, r2, ⟨cls, dd, data, sl⟩, e2, hc, n2, hd⟩ := I.hok b _ hB
  simp only at hc hd
  subst hc hd
  have hl2 := r2.length
  have hsz : its.toArray.size + its2.toArray.size ≤ sizeLine := by rw [List.size_toArray, List.size_toArray]; omega
  refine call_meets F.slot_list_extend ⟨_, e, rfl⟩ F.entry_list_extend (F.args_list_extend_2 _ _) (ext_tup l b its.toArray its2.toArray n n2 dd sl (by rw [notLongL hsz, Bool.and_false]; exact Bool.false_ne_true) (by rw [List.size_toArray]; omega) (by omega)) ⟨e, e2, ?_⟩
  refine ⟨.non, _, I.lset (its' := its ++ its2) hH e (by simp) (r.append r2) ?_, rfl, q⟩
  rw [List.length_append]; omega
end
theorem dp_ints {K : PySem.W.Frag} {H : Hp} : ∀ l : List Nat, DpAll K H (l.map fun (x : Nat) => V.int (x : Int)) (l.map fun (x : Nat) => PyData.int (x : Int))
  | [] => .nil
  | x :: l => .cons (.int _) (dp_ints l)
theorem eqv_ints : ∀ l m : List Nat, PyData.eqvAll (l.map fun (x : Nat) => PyData.int (x : Int)) (m.map fun (x : Nat) => PyData.int (x : Int)) = decide (l = m)
  | [], [] => by simp [PyData.eqvAll]
  | [], y :: m => by simp [PyData.eqvAll]
  | x :: l, [] => by simp [PyData.eqvAll]
  | x :: l, y :: m => by
    rw [List.map_cons, List.map_cons, PyData.eqvAll, eqv_ints l m, PyData.eqv]
    by_cases e : x = y
    · subst e; simp
    · have : ¬ ((x : Int) = (y : Int)) := by omega
      simp [e, this]
end L2
namespace My
open PySem PySem.Spec PyProof.Rows L2
theorem lc_enum {K : PySem.W.Frag} {a : Addr} {xs : List V} {g : TG} {tt : TT} {te : TE} {vs : List Nat} {σ : L2.St} {H1 : Hp} {D : Addr} {Qd : Hp → Prop} (Pv : Nat → Hp → Prop) (h0 : Pv 0 (upd H1 D (.lst [])))
    (hl : ∀ i H, i ≤ xs.length → Pv i H → SqL K H a xs)
    (hs : ∀ i x H T, xs[i]? = some x → Pv i H → H T = none → g (.ref T) (wipe σ vs) (upd H T (.tup [.int (i : Nat), x])) fun σ2 H2 => wipe σ2 vs = wipe σ vs ∧ tt σ2 H2 fun b H3 =>
      if b = true then te σ2 H3 fun y H4 => ∃ acc, H4 D = some (.lst acc) ∧ acc.length < sizeLine ∧ Pv (i + 1) (upd H4 D (.lst (acc ++ [y]))) else Pv (i + 1) H3) (hd : ∀ H, Pv xs.length H → Qd H) :
    ∃ W : Nat → Nat → Hp → Prop, (∃ m, W 0 m (upd H1 D (.lst []))) ∧ ∀ i m H, W i m H →
      ((Ite K a).stop i H ∧ Qd H) ∨ ((Ite K a).go i H ∧ ∃ Nx : Hp → Prop, (∀ H', Nx H' → ∃ m', m' < m ∧ W (i + 1) m' H') ∧ ∀ x H', (Ite K a).yld i H x H' → g x (wipe σ vs) H' fun σ2 H2 => wipe σ2 vs = wipe σ vs ∧ tt σ2 H2 fun b H3 =>
        if b = true then te σ2 H3 fun y H4 => ∃ acc, H4 D = some (.lst acc) ∧ acc.length < sizeLine ∧ Nx (upd H4 D (.lst (acc ++ [y]))) else Nx H3) := by
  refine ⟨fun i m H => m = xs.length - i ∧ i ≤ xs.length ∧ Pv i H, ⟨xs.length, by simp, Nat.zero_le _, h0⟩, ?_⟩
  rintro i m H ⟨rfl, hi, p⟩
  have q := hl i H hi p
  by_cases hlt : i < xs.length
  · refine .inr ⟨⟨xs, xs[i], q, by simp [hlt]⟩, Pv (i + 1), fun H' p' => ⟨xs.length - (i + 1), by omega, rfl, hlt, p'⟩, fun v H' y => ?_⟩
    obtain ⟨T, x, rfl, hT, rfl, e1⟩ := y
    exact hs i x _ T (e1 xs q) p hT
  · have e : i = xs.length := by omega
    subst e
    exact .inl ⟨⟨xs, q, Nat.le_refl _⟩, hd H p⟩
theorem for_zip {K : PySem.W.Frag} {a b : Addr} {xs ys : List V} {g : TG} {tb : TS} {D : Ends} {σ : L2.St} {H : Hp} (Pv : Nat → L2.St → Hp → Prop) (h0 : Pv 0 σ H) (hl : ∀ i σ H, i ≤ min xs.length ys.length → Pv i σ H → SqL K H a xs ∧ SqL K H b ys)
    (hs : ∀ i x y σ H T, xs[i]? = some x → ys[i]? = some y → Pv i σ H → H T = none → g (.ref T) σ (upd H T (.tup [x, y])) fun σ2 H2 => tb { D with nx := Pv (i + 1), ct := Pv (i + 1), bk := D.nx } σ2 H2) (hd : ∀ σ H, Pv (min xs.length ys.length) σ H → D.nx σ H) :
    ∃ W : Nat → Nat → L2.St → Hp → Prop, (∃ m, W 0 m σ H) ∧ ∀ i m σ H, W i m σ H →
      ((Itz K a b).stop i H ∧ D.nx σ H) ∨ ((Itz K a b).go i H ∧ ∃ N : L2.St → Hp → Prop, (∀ σ' H', N σ' H' → ∃ m', m' < m ∧ W (i + 1) m' σ' H') ∧ ∀ x H', (Itz K a b).yld i H x H' → g x σ H' fun σ2 H2 => tb { D with nx := N, ct := N, bk := D.nx } σ2 H2) := by
  refine ⟨fun i m σ H => m = min xs.length ys.length - i ∧ i ≤ min xs.length ys.length ∧ Pv i σ H, ⟨min xs.length ys.length, by simp, Nat.zero_le _, h0⟩, ?_⟩
  rintro i m σ H ⟨rfl, hi, p⟩
  have q := hl i σ H hi p
  by_cases hlt : i < min xs.length ys.length
  · have h1 : i < xs.length := by omega
    have h2 : i < ys.length := by omega
    refine .inr ⟨⟨xs, ys, xs[i], ys[i], q.1, q.2, by simp [h1], by simp [h2]⟩, Pv (i + 1), fun σ' H' p' => ⟨min xs.length ys.length - (i + 1), by omega, rfl, hlt, p'⟩, fun v H' y => ?_⟩
    obtain ⟨T, x, y, rfl, hT, rfl, e1, e2⟩ := y
    exact hs i x y σ _ T (e1 xs q.1) (e2 ys q.2) p hT
  · have e : i = min xs.length ys.length := by omega
    subst e
    exact .inl ⟨⟨xs, ys, q.1, q.2, by omega⟩, hd σ H p⟩
theorem at_last {l : List V} {v : V} (h : l.getLast? = some v) : atI l (-1) = some v := by
  cases l with
  | nil => cases h
  | cons x t =>
    have e : ixN (x :: t).length (-1) = some t.length := by
      unfold ixN
      rw [if_neg (by decide)]
      simp
      omega
    unfold atI
    rw [e]
    show (x :: t)[t.length]? = some v
    rw [← h, List.getLast?_eq_getElem?]; simp
end My


end
section
set_option Elab.async false
set_option linter.all false
set_option maxRecDepth 100000
set_option maxHeartbeats 4000000
namespace Zs
open PySem PySem.Spec PyProof.Rows L2
abbrev SIt (h : Heap) (i : Addr) (x : Str) (t : Tok) (k : Nat) : Prop := h.IsStrIter i "str_ascii_iterator" x t k
theorem sit_at {h g : Heap} {i : Addr} {x : Str} {t : Tok} {k : Nat} (y : SIt h i x t k) (f : ∀ o, h.get? i = some o → g.get? i = some o) : SIt g i x t k := let ⟨o, e, r⟩ := y; ⟨o, f o e, r⟩
section
variable {prog : Program} {w : World} {A : Around} {E : Value → Shared → Prop} {s : Shared}
structure Ap (z TI TO i1 i2 b : Addr) : Prop where
  a1 : TI ≠ z
  a2 : TO ≠ z
  a3 : i1 ≠ z
  a4 : i2 ≠ z
  a5 : TI ≠ TO
  a6 : TI ≠ i1
  a7 : TI ≠ i2
  a8 : TO ≠ i1
  a9 : TO ≠ i2
  a10 : i1 ≠ i2
  b1 : b ≠ z
  b2 : b ≠ TO
  b3 : b ≠ i1
  b4 : b ≠ i2
theorem nx_item {z TI TO i1 i2 l : Addr} {k c : Nat} {x : Str} {t : Tok} {ys : Array Value} {y a b : Value} {Q : Value → Shared → Prop} (D : Ap z TI TO i1 i2 l)
    (hz : IsZip s.heap z TI TO .none) (hI : IsPair s.heap TI (.ref i1) (.ref i2)) (hO : IsPair s.heap TO a b)
    (w1 : SIt s.heap i1 x t k) (w2 : s.heap.IsListIter i2 l k) (hl : s.heap.IsList l ys) (hx : x.cps[k]? = some c) (hy : ys[k]? = some y)
    (hQ : ∀ g, IsZip g z TI TO (rawInt s.heap.objs.size) → IsPair g TO (.str ⟨#[c]⟩ s.toks) y → SIt g i1 x t (k + 1) → g.IsListIter i2 l (k + 1) → IsPair g s.heap.objs.size (.str ⟨#[c]⟩ s.toks) y → g.objs.size = s.heap.objs.size + 1 →
      (∀ d o, d ≠ z → d ≠ TO → d ≠ i1 → d ≠ i2 → s.heap.get? d = some o → g.get? d = some o) → Q (.ref s.heap.objs.size) { s with heap := g, toks := s.toks + 1 }) :
    wpAny (model prog w) A (Builtin.«zip.__next__» ⟨[.ref z], []⟩) (fun fin s' => ∃ v, fin = .done (.ret v) ∧ Q v s') E s := by
  show wpAny _ _ (field (.ref z) 2 >>= _) _ _ _; refine wpAny_bind (wpAny_field hz rfl (x := .bool false) rfl ?_)
  show wpAny _ _ (field (.ref z) 3 >>= _) _ _ _; refine wpAny_bind (wpAny_field hz rfl (x := .ref TI) rfl ?_)
  refine wpAny_bind (wpAny_seqItems hI rfl ?_); show wpAny _ _ (Builtin.SmallTypes.ownedTupleIsFree (.ref z) >>= _) _ _ _
  refine wpAny_bind ?_; unfold Builtin.SmallTypes.ownedTupleIsFree
  refine wpAny_bind (wpAny_field hz rfl (x := .none) rfl (wpAny_pure ?_)); simp only [if_true]
  refine wpAny_bind (wpAny_rule ?_); refine wpAny_bind (wpAny_field hz rfl (x := .ref TO) rfl ?_)
  refine wpAny_bind (wpAny_setField_rec hz (by simp) fun g1 z1 e1 => ?_); replace z1 : IsZip g1 z TI TO .ellipsis := z1
  refine wpAny_bind ?_; simp only [List.zipIdx_cons, List.zipIdx_nil, List.forIn_cons, List.forIn_nil]
  refine wpAny_bind (wpAny_bind (wpAny_onRaise ?_)); show wpAny _ _ (Builtin.SmallTypes.nextOf (.ref i1) >>= _) _ _ _
  refine wpAny_bind (wpAny_nextOf_ascii_item (w1.extBut e1.extBut D.a3) hx fun g2 v2 e2 => wpAny_pure ?_)
  have o2 : IsPair g2 TO a b := e2.extBut _ _ D.a8 (e1.extBut _ _ D.a2 hO)
  refine wpAny_bind (wpAny_seqItems o2 rfl ?_); refine wpAny_bind (wpAny_updateSeq_pair o2 fun g3 o3 e3 => ?_)
  replace o3 : IsPair g3 TO (.str ⟨#[c]⟩ s.toks) b := o3
  refine wpAny_bind (wpAny_letGo (wpAny_pure ?_)); refine wpAny_bind (wpAny_bind (wpAny_onRaise ?_))
  show wpAny _ _ (Builtin.SmallTypes.nextOf (.ref i2) >>= _) _ _ _
  refine wpAny_bind (wpAny_nextOf_list_item (((w2.extBut e1.extBut D.a4).extBut e2.extBut D.a10.symm).extBut e3.extBut D.a9.symm) (((hl.extBut e1.extBut D.b1).extBut e2.extBut D.b3).extBut e3.extBut D.b2) hy fun g4 v4 e4 => wpAny_pure ?_)
  have o4 : IsPair g4 TO (.str ⟨#[c]⟩ s.toks) b := e4.extBut _ _ D.a9 o3
  refine wpAny_bind (wpAny_seqItems o4 rfl ?_); refine wpAny_bind (wpAny_updateSeq_pair o4 fun g5 o5 e5 => ?_)
  replace o5 : IsPair g5 TO (.str ⟨#[c]⟩ s.toks) y := o5
  refine wpAny_bind (wpAny_letGo (wpAny_pure (wpAny_pure ?_))); refine wpAny_bind (wpAny_seqItems o5 rfl ?_); refine wpAny_bind (wpAny_newTuple ?_)
  have sz : g5.objs.size = s.heap.objs.size := by rw [e5.1, e4.1, e3.1, e2.1, e1.1]
  have z5 : IsZip g5 z TI TO .ellipsis := e5.extBut _ _ D.a2.symm (e4.extBut _ _ D.a4.symm (e3.extBut _ _ D.a2.symm (e2.extBut _ _ D.a3.symm z1)))
  have k5 : ∀ d o, d ≠ z → d ≠ TO → d ≠ i1 → d ≠ i2 → s.heap.get? d = some o → g5.get? d = some o := fun d o d1 d2 d3 d4 q => e5.extBut _ _ d2 (e4.extBut _ _ d4 (e3.extBut _ _ d2 (e2.extBut _ _ d3 (e1.extBut _ _ d1 q))))
  have v5 : SIt g5 i1 x t (k + 1) := ((v2.extBut e3.extBut D.a8.symm).extBut e4.extBut D.a10).extBut e5.extBut D.a8.symm
  have u5 : g5.IsListIter i2 l (k + 1) := v4.extBut e5.extBut D.a9.symm
  have ltz : z < g5.objs.size := Heap.lt_size z5
  show wpAny _ _ (Builtin.SmallTypes.ownedTupleHandOut (.ref z) (.ref g5.objs.size) >>= _) _ _ _; refine wpAny_bind ?_
  unfold Builtin.SmallTypes.ownedTupleHandOut
  have z6 : IsZip (g5.push { cls := .type "tuple", data := .seq #[.str ⟨#[c]⟩ s.toks, y] }) z TI TO .ellipsis := Heap.get?_push_of_some _ z5
  refine wpAny_bind (wpAny_setField_rec z6 (by simp) fun g7 z7 e7 => ?_); replace z7 : IsZip g7 z TI TO (rawInt g5.objs.size) := z7
  refine wpAny_setField_rec z7 (by simp) fun g8 z8 e8 => ?_; replace z8 : IsZip g8 z TI TO (rawInt g5.objs.size) := z8
  have up : ∀ d o, d ≠ z → g5.get? d = some o → g8.get? d = some o := fun d o d1 q => e8.extBut _ _ d1 (e7.extBut _ _ d1 (Heap.get?_push_of_some _ q))
  have t8 : IsPair g8 g5.objs.size (.str ⟨#[c]⟩ s.toks) y := e8.extBut _ _ (Nat.ne_of_gt ltz) (e7.extBut _ _ (Nat.ne_of_gt ltz) (Heap.get?_push_size _ rfl))
  have s8 : g8.objs.size = g5.objs.size + 1 := by rw [e8.1, e7.1, Heap.size_push]
  rw [sz] at z8 t8 s8
  refine wpAny_pure ⟨_, rfl, ?_⟩; show Q (.ref g5.objs.size) _; rw [sz]
  exact hQ g8 z8 (up _ _ D.a2 o5) (sit_at v5 fun o q => up _ o D.a3 q) (u5.at fun o q => up _ o D.a4 q) t8 s8 fun d o d1 d2 d3 d4 q => up d o d1 (k5 d o d1 d2 d3 d4 q)
theorem nx_end {z TI TO i1 i2 l : Addr} {k : Nat} {x : Str} {t : Tok} {ys : Array Value} {a b : Value} {Q : Fin → Shared → Prop} (hh : A.handled = none) (D : Ap z TI TO i1 i2 l)
    (hz : IsZip s.heap z TI TO .none) (hI : IsPair s.heap TI (.ref i1) (.ref i2)) (hO : IsPair s.heap TO a b) (w1 : SIt s.heap i1 x t k) (hx : x.cps[k]? = none)
    (hE : ∀ g e, (∀ d o, d ≠ z → d ≠ TO → d ≠ i1 → d ≠ i2 → s.heap.get? d = some o → g.get? d = some o) → (∃ o, g.get? e = some o ∧ o.cls = .type "StopIteration") → E (.ref e) { s with heap := g }) :
    wpAny (model prog w) A (Builtin.«zip.__next__» ⟨[.ref z], []⟩) Q E s := by
  show wpAny _ _ (field (.ref z) 2 >>= _) _ _ _; refine wpAny_bind (wpAny_field hz rfl (x := .bool false) rfl ?_)
  show wpAny _ _ (field (.ref z) 3 >>= _) _ _ _; refine wpAny_bind (wpAny_field hz rfl (x := .ref TI) rfl ?_)
  refine wpAny_bind (wpAny_seqItems hI rfl ?_); show wpAny _ _ (Builtin.SmallTypes.ownedTupleIsFree (.ref z) >>= _) _ _ _
  refine wpAny_bind ?_; unfold Builtin.SmallTypes.ownedTupleIsFree
  refine wpAny_bind (wpAny_field hz rfl (x := .none) rfl (wpAny_pure ?_)); simp only [if_true]
  refine wpAny_bind (wpAny_rule ?_); refine wpAny_bind (wpAny_field hz rfl (x := .ref TO) rfl ?_)
  refine wpAny_bind (wpAny_setField_rec hz (by simp) fun g1 z1 e1 => ?_); replace z1 : IsZip g1 z TI TO .ellipsis := z1
  refine wpAny_bind ?_; simp only [List.zipIdx_cons, List.zipIdx_nil, List.forIn_cons, List.forIn_nil]
  refine wpAny_bind (wpAny_bind (wpAny_onRaise ?_)); show wpAny _ _ (Builtin.SmallTypes.nextOf (.ref i1) >>= _) _ _ _
  refine wpAny_bind (wpAny_nextOf_ascii_end hh (w1.extBut e1.extBut D.a3) hx fun g2 e e2 he => ?_)
  obtain ⟨oe, q1, q2⟩ := he
  have z2 : IsZip g2 z TI TO .ellipsis := e2 _ _ D.a3.symm z1
  have ne : e ≠ z := fun q => by subst q; rw [z2] at q1; cases q1; simp at q2
  refine wpAny_setField_rec z2 (by simp) fun g3 _ e3 => hE g3 e (fun d o d1 _ d3 _ q => e3.extBut _ _ d1 (e2 _ _ d3 (e1.extBut _ _ d1 q))) ⟨oe, e3.extBut _ _ ne q1, q2⟩
theorem py_item {z TI TO i1 i2 l : Addr} {k c : Nat} {x : Str} {t : Tok} {ys : Array Value} {y a b : Value} {Q : Option Value → Shared → Prop} (D : Ap z TI TO i1 i2 l)
    (hz : IsZip s.heap z TI TO .none) (hI : IsPair s.heap TI (.ref i1) (.ref i2)) (hO : IsPair s.heap TO a b)
    (w1 : SIt s.heap i1 x t k) (w2 : s.heap.IsListIter i2 l k) (hl : s.heap.IsList l ys) (hx : x.cps[k]? = some c) (hy : ys[k]? = some y)
    (hQ : ∀ g, IsZip g z TI TO (rawInt s.heap.objs.size) → IsPair g TO (.str ⟨#[c]⟩ s.toks) y → SIt g i1 x t (k + 1) → g.IsListIter i2 l (k + 1) → IsPair g s.heap.objs.size (.str ⟨#[c]⟩ s.toks) y → g.objs.size = s.heap.objs.size + 1 →
      (∀ d o, d ≠ z → d ≠ TO → d ≠ i1 → d ≠ i2 → s.heap.get? d = some o → g.get? d = some o) → Q (some (.ref s.heap.objs.size)) { s with heap := g, toks := s.toks + 1 }) :
    wpAny (model prog w) A (pyNext (.ref z)) Q E s := by
  have ty : s.TypeIs (.ref z) "zip" := ⟨_, hz, rfl⟩
  unfold pyNext; exact wpAny_bind (wpAny_attempt (wpAny_callSpecial?_slot (name := Str.ofString "__next__") ty F.slot_zip_next (wpAny_call_entry F.slot_zip_next ty F.entry_zip_next
    (nx_item D hz hI hO w1 w2 hl hx hy fun g q1 q2 q3 q4 q5 q6 q7 => wpAny_pure (hQ g q1 q2 q3 q4 q5 q6 q7)) (F.args_zip_next_1 _))))
theorem py_end {z TI TO i1 i2 l : Addr} {k : Nat} {x : Str} {t : Tok} {ys : Array Value} {a b : Value} {Q : Option Value → Shared → Prop} (hh : A.handled = none) (D : Ap z TI TO i1 i2 l)
    (hz : IsZip s.heap z TI TO .none) (hI : IsPair s.heap TI (.ref i1) (.ref i2)) (hO : IsPair s.heap TO a b) (w1 : SIt s.heap i1 x t k) (hx : x.cps[k]? = none)
    (hQ : ∀ g, (∀ d o, d ≠ z → d ≠ TO → d ≠ i1 → d ≠ i2 → s.heap.get? d = some o → g.get? d = some o) → Q none { s with heap := g }) : wpAny (model prog w) A (pyNext (.ref z)) Q E s := by
  have ty : s.TypeIs (.ref z) "zip" := ⟨_, hz, rfl⟩
  unfold pyNext; refine wpAny_bind (wpAny_attempt (wpAny_callSpecial?_slot (name := Str.ofString "__next__") ty F.slot_zip_next (wpAny_call_entry F.slot_zip_next ty F.entry_zip_next
    (nx_end (ys := ys) hh D hz hI hO w1 hx fun g e hk he => ?_) (F.args_zip_next_1 _))))
  obtain ⟨o, q1, q2⟩ := he
  refine wpAny_bind (wpAny_isInstance (T := "StopIteration") (b := true) ⟨o, q1, q2⟩ isSubtype_stop ?_); exact wpAny_pure (hQ _ hk)
end
abbrev hp1 (h : Heap) (x : Str) (t : Tok) : Heap := h.push { cls := .type "str_ascii_iterator", data := .fields #[.str x t, .int 0 0] }
abbrev hp2 (h : Heap) (x : Str) (t : Tok) (l : Addr) : Heap := (hp1 h x t).push { cls := .type "list_iterator", data := .fields #[.ref l, .int 0 0] }
abbrev hp3 (h : Heap) (x : Str) (t : Tok) (l : Addr) : Heap := (hp2 h x t l).push { cls := .type "tuple", data := .seq #[.ref h.objs.size, .ref (hp1 h x t).objs.size] }
abbrev hp4 (h : Heap) (x : Str) (t : Tok) (l : Addr) : Heap := (hp3 h x t l).push { cls := .type "tuple", data := .seq #[.none, .none] }
abbrev hp5 (h : Heap) (x : Str) (t : Tok) (l : Addr) : Heap := (hp4 h x t l).push { cls := .type "zip", data := .fields #[.none, .bool false, .bool false, .ref (hp2 h x t l).objs.size, .ref (hp3 h x t l).objs.size] }
theorem meets_new (x : Str) (t : Tok) (l : Addr) (ys : Array Value) (ha : x.cps.all (· < 128) = true) :
    Meets (Builtin.«zip.__new__» ⟨[.type "zip", .str x t, .ref l], []⟩) (fun _ R s => s.heap.IsList l ys ∧ R (.ok (.ret (.ref (hp4 s.heap x t l).objs.size))) { s with heap := hp5 s.heap x t l }) :=
  .of_wp fun prog w A R s h => by
    obtain ⟨hp, g, d, tk, os⟩ := s; obtain ⟨hl, h⟩ := h
    have hsub := sub_zip
    have hL : Heap.IsList (Shared.heap ⟨hp.push { cls := .type "str_ascii_iterator", data := .fields #[.str x t, .int 0 0] }, g, d, tk, os⟩) l ys := Heap.IsList.push hl _
    wp_walk using wpAny_pyIter_ascii ha, wpAny_pyIter_list hL
    exact ⟨_, rfl, h⟩
end Zs


end
section
set_option Elab.async false
set_option linter.all false
set_option maxRecDepth 100000
set_option maxHeartbeats 4000000
namespace Zs
open PySem PySem.Spec PyProof.Rows L2
section
variable {prog : Program} {w : World} {A : Around} {E : Value → Shared → Prop} {s : Shared}
theorem call_zipS {x : Str} {t : Tok} {l : Addr} {ys : Array Value} {Q : Value → Shared → Prop} (ha : x.cps.all (· < 128) = true) (hl : s.heap.IsList l ys)
    (h : ∀ g, IsZip g (s.heap.objs.size + 4) (s.heap.objs.size + 2) (s.heap.objs.size + 3) .none → IsPair g (s.heap.objs.size + 2) (.ref s.heap.objs.size) (.ref (s.heap.objs.size + 1)) →
      IsPair g (s.heap.objs.size + 3) .none .none → SIt g s.heap.objs.size x t 0 → g.IsListIter (s.heap.objs.size + 1) l 0 → g.objs.size = s.heap.objs.size + 5 →
      (∀ d o, s.heap.get? d = some o → g.get? d = some o) → Q (.ref (s.heap.objs.size + 4)) { s with heap := g }) :
    wpAny (model prog w) A (call (.type "zip") [.str x t, .ref l]) Q E s := by
  refine callType_new F.called_zip (by decide) (F.typeCall_zip_2 _ _) (F.newCall_zip_2 _ _) (fun obj => F.args_object_init_3 obj _ _) F.entry_zip_new (meets_new x t l ys ha) ⟨hl, ?_⟩
  have z1 : (hp1 s.heap x t).objs.size = s.heap.objs.size + 1 := Heap.size_push ..
  have z2 : (hp2 s.heap x t l).objs.size = s.heap.objs.size + 2 := by rw [Heap.size_push, z1]
  have z3 : (hp3 s.heap x t l).objs.size = s.heap.objs.size + 3 := by rw [Heap.size_push, z2]
  have z4 : (hp4 s.heap x t l).objs.size = s.heap.objs.size + 4 := by rw [Heap.size_push, z3]
  have z5 : (hp5 s.heap x t l).objs.size = s.heap.objs.size + 5 := by rw [Heap.size_push, z4]
  have g5 : (hp5 s.heap x t l).get? (hp4 s.heap x t l).objs.size = some _ := Heap.get?_push_size _ rfl
  have g4 : (hp5 s.heap x t l).get? (hp3 s.heap x t l).objs.size = some _ := Heap.get?_push_of_some _ (Heap.get?_push_size _ rfl)
  have g3 : (hp5 s.heap x t l).get? (hp2 s.heap x t l).objs.size = some _ := Heap.get?_push_of_some _ (Heap.get?_push_of_some _ (Heap.get?_push_size _ rfl))
  have g2 : (hp5 s.heap x t l).get? (hp1 s.heap x t).objs.size = some _ := Heap.get?_push_of_some _ (Heap.get?_push_of_some _ (Heap.get?_push_of_some _ (Heap.get?_push_size _ rfl)))
  have g1 : (hp5 s.heap x t l).get? s.heap.objs.size = some _ := Heap.get?_push_of_some _ (Heap.get?_push_of_some _ (Heap.get?_push_of_some _ (Heap.get?_push_of_some _ (Heap.get?_push_size _ rfl))))
  show _ ∧ _
  rw [z2, z3, z4] at g5; rw [z1, z2] at g3; rw [z3] at g4; rw [z1] at g2; rw [z4]
  exact ⟨⟨_, g5, rfl⟩, h _ g5 g3 g4 ⟨_, g1, rfl, rfl⟩ ⟨_, g2, rfl, rfl⟩ z5 fun d o q => Heap.get?_push_of_some _ (Heap.get?_push_of_some _ (Heap.get?_push_of_some _ (Heap.get?_push_of_some _ (Heap.get?_push_of_some _ q))))⟩
end
theorem apart (n l : Nat) (h : l < n) : Ap (n + 4) (n + 2) (n + 3) n (n + 1) l := by
  constructor <;> (intro q; have q : (_ : Nat) = _ := q; omega)
def ItS (K : PySem.W.Frag) (x : Str) (b : Addr) : It :=
  ⟨fun i H => ∃ (ys : List V) (c : Nat) (y : V), SqL K H b ys ∧ x.cps[i]? = some c ∧ ys[i]? = some y,
    fun i H v H' => ∃ (T : Addr) (c : Nat) (y : V), v = .ref T ∧ H T = none ∧ H' = upd H T (.tup [.str ⟨#[c]⟩, y]) ∧ x.cps[i]? = some c ∧ ∀ ys, SqL K H b ys → ys[i]? = some y,
    fun i _ => x.cps.size ≤ i⟩
theorem turnS {P : Program} {w : World} {K : PySem.W.Frag} {elts : List Expr} {kk : Nat} {tpos : Pos} {x : Str} {t : Tok} {b z TI TO i1 i2 : Addr} (D : Ap z TI TO i1 i2 b) :
    Turn P w K (.Tuple elts kk tpos) (ItS K x b) [z, TI, TO, i1, i2] z (fun i h => IsZip h z TI TO .none ∧ IsPair h TI (.ref i1) (.ref i2) ∧ (∃ p q, IsPair h TO p q) ∧ SIt h i1 x t i ∧ h.IsListIter i2 b i) where
  mem := by simp
  obj := fun i h st c hc => by
    obtain ⟨hz, hI, ⟨p, q, hO⟩, ⟨o1, e1, _, d1⟩, ⟨o2, e2, _, d2⟩⟩ := st
    have e' : c = z ∨ c = TI ∨ c = TO ∨ c = i1 ∨ c = i2 := by simpa using hc
    rcases e' with r | r | r | r | r <;> rw [r]
    · exact ⟨_, hz, fun v q => nomatch q⟩
    · exact ⟨_, hI, fun v q => nomatch q⟩
    · exact ⟨_, hO, fun v q => nomatch q⟩
    · exact ⟨o1, e1, fun v q => by rw [d1] at q; cases q⟩
    · exact ⟨o2, e2, fun v q => by rw [d2] at q; cases q⟩
  keep := fun i h h' st k => by
    obtain ⟨hz, hI, ⟨p, q, hO⟩, h1, h2⟩ := st
    exact ⟨k z (by simp) _ hz, k TI (by simp) _ hI, ⟨p, q, k TO (by simp) _ hO⟩, sit_at h1 fun o r => k i1 (by simp) o r, h2.at fun o r => k i2 (by simp) o r⟩
  item := by
    intro X hP hw hK hc i pins s σ H E I hf st hg
    subst hP hw hK
    obtain ⟨hz, hI, ⟨x0, y0, hO⟩, h1, h2⟩ := st
    obtain ⟨ys, c, y, hqy, hx, hy⟩ := hg
    obtain ⟨its, rv, p, _⟩ := I.list hqy
    obtain ⟨u, hu, ru⟩ := rv.get hy
    have ltz : z < s.heap.objs.size := Heap.lt_size hz
    refine py_item D hz hI hO h1 h2 p.isList (c := c) (y := u) hx (by simpa using hu) fun g z' O' h1' h2' hT hsz hk => ?_
    refine ⟨_, rfl, wpAny_letOwnedTupleGo_zip (s := { s with heap := g, toks := s.toks + 1 }) z' fun g2 z'' sb => ?_⟩
    have hT2 : g2.get? s.heap.objs.size = some { cls := .type "tuple", data := .seq #[.str ⟨#[c]⟩ s.toks, u] } := (sb.2 _ (Nat.ne_of_gt ltz)).trans hT
    have new : ObjOk X.prog X.w (upd H s.heap.objs.size (.tup [.str ⟨#[c]⟩, y])) g2 s.heap.objs.size (.tup [.str ⟨#[c]⟩, y]) :=
      ⟨by show 2 ≤ sizeLine; decide, [.str ⟨#[c]⟩ s.toks, u], .cons ⟨_, rfl⟩ (.cons ru .nil), ⟨_, hT2, rfl, _, rfl⟩⟩
    have I1 : Inv X pins σ (upd H s.heap.objs.size (.tup [.str ⟨#[c]⟩, y])) { s with heap := g2, toks := s.toks + 1 } :=
      I.turnedNew (t' := s.toks + 1) (ch := [z, TI, TO, i1, i2]) (fun d o hb q => (sb.2 d (fun r => hb (by simp [r]))).trans (hk d o (fun r => hb (by simp [r])) (fun r => hb (by simp [r])) (fun r => hb (by simp [r])) (fun r => hb (by simp [r])) q)) hf (Nat.le_refl _) new
    refine ⟨.ref s.heap.objs.size, _, I1, rfl, ⟨_, c, y, rfl, I.hok.fresh (Nat.le_refl _), rfl, hx, fun l hl => by rw [I.list_inj hl hqy]; exact hy⟩, ⟨z'', ?_, ⟨.str ⟨#[c]⟩ s.toks, u, ?_⟩, ?_, ?_⟩, fun d hcm => ?_⟩
    · exact (sb.2 _ D.a1).trans (hk _ _ D.a1 D.a5 D.a6 D.a7 hI)
    · exact (sb.2 _ D.a2).trans O'
    · exact sit_at h1' fun o q => (sb.2 _ D.a3).trans q
    · exact h2'.at fun o q => (sb.2 _ D.a4).trans q
    · have hlt : d < s.heap.objs.size := by
        have e' : d = z ∨ d = TI ∨ d = TO ∨ d = i1 ∨ d = i2 := by simpa using hcm
        rcases e' with q | q | q | q | q <;> rw [q]
        · exact ltz
        · exact Heap.lt_size hI
        · exact Heap.lt_size hO
        · obtain ⟨_, e1, _⟩ := h1; exact Heap.lt_size e1
        · obtain ⟨_, e2, _⟩ := h2; exact Heap.lt_size e2
      rw [upd_ne (Nat.ne_of_lt hlt)]; exact (hf d hcm).1
  done := by
    intro X hP hw hK hc i pins s σ H E I hf st hg
    subst hP hw hK
    obtain ⟨hz, hI, ⟨x0, y0, hO⟩, h1, h2⟩ := st
    have he : x.cps[i]? = none := Array.getElem?_eq_none hg
    exact py_end (ys := #[]) (I.ok.hd hc) D hz hI hO h1 he fun g hk => ⟨rfl, I.turnedL (t' := s.toks) (ch := [z, TI, TO, i1, i2]) (fun d o hb q =>
      hk d o (fun r => hb (by simp [r])) (fun r => hb (by simp [r])) (fun r => hb (by simp [r])) (fun r => hb (by simp [r])) q) hf⟩
  self := fun A i s Q E st h => wpAny_pyIter_zip st.1 h
def iZipS (K : PySem.W.Frag) (ta : TA) : TI := fun σ H R => ta σ H fun vs H1 => ∃ x b ys, vs = [.str x, .ref b] ∧ x.cps.all (· < 128) = true ∧ SqL K H1 b ys ∧ R (ItS K x b) H1
theorem pi_zipS {X : Cx} {e e2 : Expr} {ta : TA} {p pos tpos : Pos} {elts : List Expr} {kk : Nat} (hg : Gl X "zip") (hm : X.mg "zip" = none) (ha : PA X [e, e2] ta)
    (hs : starEach [e, e2] X.env = (false, eval e X.env) :: starEach [e2] X.env := by rfl) (hpl : (backTo pos (starEach [e2] X.env)).any (·.1) = false := by rfl) :
    PI X (.Tuple elts kk tpos) (.Call (.Name "zip" p) [e, e2] [] pos) (iZipS X.K ta) := by
  intro pins s σ H R I h
  refine Call_ (ld_blt I hg hm boot_zip5 (PyProof.Rows.callWith_type1 (thn (ha pos pins s σ H _ I h) fun us s1 ⟨vs, H1, I1, r1, q1⟩ => ?_) hs hpl))
  obtain ⟨x, b, ys, ex, hax, hqy, q⟩ := q1
  subst ex
  cases r1 with
  | cons r rr =>
    cases rr with
    | cons r' rr =>
      cases rr
      obtain ⟨t, rfl⟩ := r
      cases r'
      obtain ⟨its2, rv2, p2, _⟩ := I1.list hqy
      have lb : b < s1.heap.objs.size := p2.lt
      refine call_zipS hax p2.isList fun g hz hI hO h1 h2 hsz hk => wpAny_pyIter_zip hz ?_
      have I2 : Inv X pins σ H1 { s1 with heap := g } := I1.kept (t' := s1.toks) hk
      refine ⟨s1.heap.objs.size + 4, [s1.heap.objs.size + 4, s1.heap.objs.size + 2, s1.heap.objs.size + 3, s1.heap.objs.size, s1.heap.objs.size + 1], _, _, H1, rfl, I2, turnS (x := x) (t := t) (apart s1.heap.objs.size b lb), ⟨hz, hI, ⟨_, _, hO⟩, h1, h2⟩, fun c hcm => ?_, q⟩
      have e' : c = s1.heap.objs.size + 4 ∨ c = s1.heap.objs.size + 2 ∨ c = s1.heap.objs.size + 3 ∨ c = s1.heap.objs.size ∨ c = s1.heap.objs.size + 1 := by simpa using hcm
      have hle : s1.heap.objs.size ≤ c := by
        rcases e' with r | r | r | r | r <;> rw [r] <;> first | exact Nat.le_refl _ | exact Nat.le_add_right _ _
      exact I1.fpOk hle (I1.hok.fresh hle)
theorem lc_zipS {K : PySem.W.Frag} {x : Str} {b : Addr} {ys : List V} {g : TG} {tt : TT} {te : TE} {vs : List Nat} {σ : L2.St} {H1 : Hp} {D : Addr} {Qd : Hp → Prop} (hlen : x.cps.size ≤ ys.length) (Pv : Nat → Hp → Prop) (h0 : Pv 0 (upd H1 D (.lst [])))
    (hl : ∀ i H, i ≤ x.cps.size → Pv i H → SqL K H b ys)
    (hs : ∀ i c y H T, x.cps[i]? = some c → ys[i]? = some y → Pv i H → H T = none → g (.ref T) (wipe σ vs) (upd H T (.tup [.str ⟨#[c]⟩, y])) fun σ2 H2 => wipe σ2 vs = wipe σ vs ∧ tt σ2 H2 fun b H3 =>
      if b = true then te σ2 H3 fun y H4 => ∃ acc, H4 D = some (.lst acc) ∧ acc.length < sizeLine ∧ Pv (i + 1) (upd H4 D (.lst (acc ++ [y]))) else Pv (i + 1) H3) (hd : ∀ H, Pv x.cps.size H → Qd H) :
    ∃ W : Nat → Nat → Hp → Prop, (∃ m, W 0 m (upd H1 D (.lst []))) ∧ ∀ i m H, W i m H →
      ((ItS K x b).stop i H ∧ Qd H) ∨ ((ItS K x b).go i H ∧ ∃ Nx : Hp → Prop, (∀ H', Nx H' → ∃ m', m' < m ∧ W (i + 1) m' H') ∧ ∀ v H', (ItS K x b).yld i H v H' → g v (wipe σ vs) H' fun σ2 H2 => wipe σ2 vs = wipe σ vs ∧ tt σ2 H2 fun b H3 =>
        if b = true then te σ2 H3 fun y H4 => ∃ acc, H4 D = some (.lst acc) ∧ acc.length < sizeLine ∧ Nx (upd H4 D (.lst (acc ++ [y]))) else Nx H3) := by
  refine ⟨fun i m H => m = x.cps.size - i ∧ i ≤ x.cps.size ∧ Pv i H, ⟨x.cps.size, by simp, Nat.zero_le _, h0⟩, ?_⟩
  rintro i m H ⟨rfl, hi, p⟩
  have q := hl i H hi p
  by_cases hlt : i < x.cps.size
  · refine .inr ⟨⟨ys, x.cps[i], ys[i], q, by simp [hlt], by simp⟩, Pv (i + 1), fun H' p' => ⟨x.cps.size - (i + 1), by omega, rfl, hlt, p'⟩, fun v H' y => ?_⟩
    obtain ⟨T, c, y, rfl, hT, rfl, e1, e2⟩ := y
    exact hs i c y _ T e1 (e2 ys q) p hT
  · have e : i = x.cps.size := by omega
    subst e
    exact .inl ⟨Nat.le_refl _, hd H p⟩
end Zs


end
section
set_option Elab.async false
set_option linter.all false
set_option maxRecDepth 100000
set_option maxHeartbeats 4000000
namespace My
open PySem PySem.Spec PyProof.Rows L2
open Kri4 (times turned turnedSet)
open Kri8 (House)
def EntsOk : List DictEntry → Nat → List Addr → Prop
  | [], _, [] => True
  | e :: es, n, a :: as => (∃ t, e.key = Value.int (n : Int) t) ∧ e.hash = hashInt (n : Int) ∧ e.val = .ref a ∧ EntsOk es (n + 1) as
  | _, _, _ => False
theorem ents_keys : ∀ {es : List DictEntry} {n : Nat} {as : List Addr}, EntsOk es n as → ∀ e ∈ es, ∃ k : Int, Value.isInt k e.key = true ∧ e.hash = hashInt k
  | [], _, [], _, e, he => by cases he
  | x :: es, n, a :: as, h, e, he => by
    obtain ⟨⟨t, h1⟩, h2, h3, h4⟩ := h
    rcases List.mem_cons.mp he with rfl | he
    · exact ⟨n, by rw [h1]; simp [Value.isInt], h2⟩
    · exact ents_keys h4 e he
theorem ents_find : ∀ {es : List DictEntry} {n : Nat} {as : List Addr} {i : Nat} {a : Addr}, EntsOk es n as → as[i]? = some a → (es.find? fun e => Value.isInt ((n + i : Nat) : Int) e.key).map (·.val) = some (.ref a)
  | [], _, [], i, a, _, h => by simp at h
  | x :: es, n, b :: as, 0, a, h, hi => by
    obtain ⟨⟨t, h1⟩, h2, h3, h4⟩ := h
    have e : b = a := by simpa using hi
    subst e
    rw [List.find?_cons_of_pos (by rw [h1]; simp [Value.isInt])]
    exact congrArg some h3
  | x :: es, n, b :: as, i + 1, a, h, hi => by
    obtain ⟨⟨t, h1⟩, h2, h3, h4⟩ := h
    rw [List.find?_cons_of_neg (by rw [h1]; simp [Value.isInt]; omega)]
    have := ents_find (n := n + 1) (i := i) (a := a) h4 (by simpa using hi)
    rw [show n + (i + 1) = n + 1 + i by omega]
    exact this
structure TabOk (K : PySem.W.Frag) (d : Addr) (ts : List Addr) : Prop where
  ex : ∃ (es : Array DictEntry) (ep : Nat), K.lookup d = some ⟨.type "dict", none, .dict es ep, #[]⟩ ∧ EntsOk es.toList 0 ts
theorem TabOk.map {K : PySem.W.Frag} {d : Addr} {ts : List Addr} {h : Heap} (T : TabOk K d ts) (X : K.In h) (P : Program) (w : World) : ∃ f, h.MapOf (PySem.intKind P w) d f ∧ ∀ (i : Nat) (a : Addr), ts[i]? = some a → f (i : Int) = some (.ref a) := by
  obtain ⟨es, ep, h1, h2⟩ := T.ex
  refine ⟨fun k => findBy Value.isInt es k, ⟨_, es, ep, X _ _ h1, ⟨rfl, rfl, rfl⟩, rfl, fun e he => ents_keys h2 e (by simpa using he), fun k => rfl⟩, fun i a hi => ?_⟩
  have := ents_find h2 hi
  show (es.find? fun e => Value.isInt ((i : Nat) : Int) e.key).map (·.val) = some (.ref a)
  rw [← Array.find?_toList, show ((i : Nat) : Int) = ((0 + i : Nat) : Int) by omega]
  exact this
def tKD (ts : List Addr) (ty : TE) : TE := fun σ H Q => ty σ H fun y H1 => ∃ (i : Nat) (a : Addr), y = nV i ∧ ts[i]? = some a ∧ Q (.ref a) H1
theorem pe_kdict {X : Cx} {d : Addr} {ts : List Addr} {o i : Expr} {ty : TE} {pos : Pos} (T : TabOk X.K d ts) (ho : PE X o (tC (.ref d))) (hi : PE X i ty) (hs : NoSl i) : PE X (.Subscript o i pos) (tKD ts ty) := by
  intro pins s σ H Q I h
  refine subD_of PySem.F.slot_dict_getitem.lookup hs (thn (ho pins s σ H (fun x H1 => x = .ref d ∧ ty σ H1 fun y H2 => ∃ (i : Nat) (a : Addr), y = nV i ∧ ts[i]? = some a ∧ Q (.ref a) H2) I ⟨rfl, h⟩) fun u s1 ⟨x, H1, I1, rx, ex, q1⟩ => thn (hi pins s1 σ H1 _ I1 q1) fun iv s2 ⟨y, H2, I2, ry, j, a, ey, ha, q2⟩ => ?_)
  subst ex; subst ey
  obtain rfl : u = Value.ref d := rx
  obtain ⟨t, rfl⟩ := ry
  obtain ⟨f, hm, hf⟩ := T.map I2.kIn X.prog X.w
  exact ⟨hm.typeIs, wpAny_getItem_of (k := (j : Int)) (by show ((j : Int) == (j : Int)) = true; simp) hm (hf j a ha) ⟨.ref a, H2, I2.tok _, rfl, q2⟩⟩
structure RowOk (K : PySem.W.Frag) (a f : Addr) (x : Str) (b : Bool) : Prop where
  ex : ∃ (t : Tok) (n : Nat) (sl : Array (Option Value)), K.lookup a = some ⟨.type "tuple", none, .seq #[.ref f, .str x t, .bool b] n, sl⟩
theorem RowOk.sq {K : PySem.W.Frag} {a f : Addr} {x : Str} {b : Bool} (R : RowOk K a f x b) (H : Hp) : SqT K H a [.ref f, .str x, .bl b] := by
  obtain ⟨t, n, sl, h⟩ := R.ex
  exact .inr ⟨_, _, n, h, rfl, rfl, by show 3 ≤ sizeLine; decide, .cons rfl (.cons ⟨t, rfl⟩ (.cons rfl .nil))⟩
def tCallL (X : Cx) (i k : Nat) (ps : List Str) (t : TA) : TE := fun σ H Q => tVar i σ H fun v H1 => ∃ (f : Addr) (fd : FuncData) (sp : Sp), v = .ref f ∧ FnOk X.prog X.w X.K X.mg X.base CX0 k f fd ps sp ∧ PySem.W.keepIn X.K (.ref f) = true ∧ Binds X.K fd ps [] ∧
  t σ H1 fun vs H2 => sp vs H2 Q fun _ _ _ => False
theorem pe_callL {X : Cx} {i k : Nat} {x : Str} {ps : List Str} {p pos : Pos} {e : Expr} {es : List Expr} {t : TA} (hr : Room k X.A) (hv : PE X (.Name x p) (tVar i)) (ha : PA X (e :: es) t)
    (he : starEach (e :: es) X.env = (false, eval e X.env) :: starEach es X.env := by rfl) (hpl : (backTo pos (starEach es X.env)).any (·.1) = false := by rfl) :
    PE X (.Call (.Name x p) (e :: es) [] pos) (tCallL X i k ps t) := by
  intro pins s σ H Q I h
  refine wpAny_Call_Name_kw (thn (hv pins s σ H _ I h) fun u s1 ⟨v, H1, I1, rv, f, fd, sp, ev, F, hk, hb, q⟩ => ?_)
  subst ev
  obtain rfl : u = Value.ref f := rv
  refine PySem.W.callWith_K (h₀ := X.base) I.ok.mod.kin hk (thn (ha pos pins s1 σ H1 _ I1 q) fun us s2 ⟨vs, H2, I2, r, q2⟩ => ⟨I2.kIn, ?_⟩) he hpl
  have hx : Passes CX0 X (fun _ _ _ => False) := pass0
  exact run_fn (ds := []) (dvs := []) F hr hb .nil hx I2 r (by rw [List.append_nil]; exact q2)
abbrev dAbove : Stmt := top 61
def nAbove : List Str := ["letters", "given", "letter", "most", "kind", "value"]
theorem scAbove : FnScope nAbove ["letters", "given", "letter", "most"] (defScope dAbove) := ⟨rfl, rfl, rfl, by decide +kernel, rfl, by decide +kernel, by decide +kernel⟩
def aboveM (xs : List Nat) (l : List Nat) (c : Nat) (m : Int) : Bool := (xs.zip l).any fun p => p.1 == c && decide (m < (p.2 : Int))
def oneSign (c : Nat) : Str := ⟨#[c]⟩
def spAbove (K : PySem.W.Frag) : Sp := fun vs H Q _ => ∃ (x : Str) (g : Addr) (l : List Nat) (c : Nat) (m : Int), vs = [.str x, .ref g, .str (oneSign c), .int m] ∧ x.cps.all (· < 128) = true ∧ x.cps.size = l.length ∧ l.length ≤ 1000 ∧ SqL K H g (l.map nV) ∧
  ∀ H' : Hp, Same H H' → Q (.bl (aboveM x.cps.toList l c m)) H'
theorem any_filter (ps : List (Nat × Nat)) (c : Nat) (m : Int) : (((ps.filter fun p => p.1 == c).map fun p => decide (m < (p.2 : Int))).any id) = ps.any fun p => p.1 == c && decide (m < (p.2 : Int)) := by
  induction ps with
  | nil => rfl
  | cons p ps ih =>
    rw [List.filter_cons, List.any_cons, ← ih]
    by_cases h : (p.1 == c) = true
    · rw [if_pos h, List.map_cons, List.any_cons, h]; simp
    · rw [if_neg h]; simp [h]
theorem zip_take_snoc {α β : Type} {xs : List α} {ys : List β} {i : Nat} {x : α} {y : β} (h1 : xs[i]? = some x) (h2 : ys[i]? = some y) : (xs.zip ys).take (i + 1) = (xs.zip ys).take i ++ [(x, y)] :=
  take_snoc (by rw [List.getElem?_zip_eq_some]; exact ⟨h1, h2⟩)
theorem sign_eq (a c : Nat) : decide (V.str ⟨#[a]⟩ = V.str (oneSign c)) = (a == c) := by
  by_cases h : a = c
  · subst h; simp [oneSign]
  · have : (a == c) = false := beq_eq_false_iff_ne.mpr h
    rw [this, decide_eq_false]
    intro z; injection z with z; injection z with z
    exact h (by simpa using z)
section
variable {P : Program} {w : World} {K : PySem.W.Frag} {mg : Str → Option Value} {base : Heap} {f C : Addr} {fd : FuncData}
theorem c_above (F : Fun K "is_above" "is_above" dAbove f fd) (hm : mg "is_above" = some (.ref f)) (B : Blt mg) : Cal P w K mg base 1 "is_above" ["letters", "given", "letter", "most"] (spAbove K) := by
  refine ⟨f, fd, F.ok scAbove (fun vs H Q E h => ?_) (fun cdv A outer s H vs Q E hr h => ?_), hm, F.kp, F.binds fun _ _ _ _ _ _ us hl => match us, hl with | [_, _, _, _], _ => rfl⟩
  · obtain ⟨_, _, _, _, _, rfl, _⟩ := h; rfl
  · obtain ⟨x, g, l, c, m, rfl, hax, hxl, hl, hg, k⟩ := h
    refine ⟨_, pss_one (ps_ret (pe_callB (cr_any rfl) (by rfl) B.any (by decide +kernel) (pa_cons (pe_lc (g := gTup K 2 (gCons (gName 4) (gCons (gName 5) gNil))) rfl scAbove.nd (Zs.pi_zipS rfl B.zip (pa_cons (pv 0) (pa_cons (pv 1) pa_nil))) (blkOk_by (N := nAbove) (sc := defScope dAbove) (own := [("kind", 4), ("value", 5)]) (by decide +kernel))
        (fun _ _ _ _ _ => pg_tup rfl (pgs_cons (pg_name (i := 4) scAbove.nd rfl (Or.inl rfl) (Or.inr rfl)) (pgs_cons (pg_name (i := 5) scAbove.nd rfl (Or.inl rfl) (Or.inr rfl)) pgs_nil)))
        (fun _ _ _ _ _ => pts_one (pt_cmpR op_eq (pv 4) (pv 2) (nomark _))) (fun _ _ _ _ _ => pe_cmpR op_gt (pv 5) (pv 3) (nomark _))) pa_nil))), ?_⟩
    refine ⟨_, rfl, _, rfl, x, g, l.map nV, rfl, hax, hg, fun D hD => Zs.lc_zipS (ys := l.map nV) (by rw [List.length_map]; omega) (fun i H' => H' D = some (.lst (((((x.cps.toList.zip l).take i).filter fun p => p.1 == c).map fun p => decide (m < (p.2 : Int))).map V.bl)) ∧ Same H H') ⟨upd_same, (Same.refl H).upd hD⟩
      (fun i H' _ hp => hp.2.seq hg) (fun i a y H' T2 hx hy hp hT2 => ?_) fun H' hp => ?_⟩
    · obtain ⟨v, hv, rfl⟩ := map_at hy
      have hz := zip_take_snoc (xs := x.cps.toList) (ys := l) (by simpa using hx) hv
      have s2 : Same H' (upd H' T2 (.tup [.str ⟨#[a]⟩, nV v])) := (Same.refl H').upd hT2
      refine ⟨T2, _, rfl, SqT.of upd_same, rfl, _, _, rfl, _, _, rfl, rfl, rfl, _, rfl, _, rfl, rfl, _, rfl, ?_⟩
      rw [sign_eq]
      refine ite2 (fun hac => ?_) fun hac => ?_
      · refine ⟨_, rfl, _, rfl, _, _, rfl, rfl, _, s2 _ _ hp.1, small ?_, ?_, (hp.2.trans s2).upd hD⟩
        · rw [List.length_map, List.length_map]
          refine Nat.le_trans (List.length_filter_le _ _) ?_
          rw [List.length_take, List.length_zip]; omega
        · rw [upd_same, hz, List.filter_append, List.map_append, List.map_append, List.filter_cons, if_pos hac]; rfl
      · refine ⟨?_, hp.2.trans s2⟩
        rw [s2 _ _ hp.1, hz, List.filter_append, List.filter_cons, if_neg hac, List.filter_nil, List.append_nil]
    · obtain ⟨h1, s1⟩ := hp
      rw [List.take_of_length_le (by rw [List.length_zip]; simp; omega)] at h1
      refine ⟨D, _, rfl, SqL.of h1, ?_⟩
      rw [any_filter]
      exact k H' s1
end
end My


end
section
set_option Elab.async false
set_option linter.all false
set_option maxRecDepth 100000
set_option maxHeartbeats 4000000
namespace My
open PySem PySem.Spec PyProof.Rows L2
open Kri4 (times turned turnedSet)
open Kri8 (House)
structure Info where
  letters : Str
  sure : Bool
  pre : House → List Nat → Prop
  post : House → List Nat → House
  ans : House → List Nat → List Int
structure CTab (P : Program) (w : World) (K : PySem.W.Frag) (mg : Str → Option Value) (base : Heap) (C : Addr) (infos : List Info) : Prop where
  ex : ∃ (d : Addr) (ts : List Addr), mg "CALLS" = some (.ref d) ∧ TabOk K d ts ∧ ∀ (c : Nat) (I : Info), infos[c]? = some I → ∃ a f, ts[c]? = some a ∧ RowOk K a f I.letters I.sure ∧ Cmd P w K mg base 10 f (spCmd K C I.pre I.post I.ans)
structure Cst2 (mg : Str → Option Value) : Prop where
  nq : ∃ t, mg "NO_QUANTITY" = some (.int (-2) t)
  nb : ∃ t, mg "NOT_BEGUN" = some (.int (-11) t)
  nr : ∃ t, mg "NOT_RIGHT" = some (.int (-22) t)
  ns : ∃ t, mg "NOT_SURE_OR_NONE" = some (.int (-33) t)
  bg : ∃ t, mg "BEGIN" = some (.int 0 t)
  most : ∃ t, mg "MOST_QUANTITIES" = some (.int 5 t)
def refuseM (I : Info) (c : Nat) (h : House) (l : List Nat) : Int :=
  if c = 0 then (if 1 ≤ l.getD 0 0 ∧ l.getD 0 0 ≤ 5 then 0 else -22) else if h.n = 0 then -11 else if aboveM I.letters.cps.toList l 113 ((h.n : Int) - 1) = true then -2 else if aboveM I.letters.cps.toList l 115 2 = true then -22
  else if I.sure = true ∧ Kri4.sure (Mth.detM h.on) = false then -33 else 0
def postM (I : Info) (c : Nat) (h : House) (l : List Nat) : House := if refuseM I c h l = 0 then I.post h l else h
def ansM (I : Info) (c : Nat) (h : House) (l : List Nat) : List Int := if refuseM I c h l = 0 then I.ans h l else [refuseM I c h l]
abbrev dRefusal : Stmt := top 62
abbrev dAnswer : Stmt := top 63
abbrev dAnswers : Stmt := top 64
def nRef : List Str := ["plant", "number", "given", "letters"]
theorem scRef : FnScope nRef ["plant", "number", "given"] (defScope dRefusal) := ⟨rfl, rfl, rfl, by decide +kernel, rfl, by decide +kernel, by decide +kernel⟩
structure Handed (K : PySem.W.Frag) (C : Addr) (infos : List Info) (H : Hp) (p g : Addr) (F : List Addr) (h : House) (l : List Nat) (c : Nat) (I : Info) : Prop where
  pl : PlantAt C H p F h
  wf : Wf h
  gv : SqL K H g (l.map nV)
  inf : infos[c]? = some I
  len : I.letters.cps.size = l.length
  asc : I.letters.cps.all (· < 128) = true
  few : l.length ≤ 1000
  one : c = 0 → l.length = 1
theorem q_sign : (Str.ofString "q" : Str) = oneSign 113 := by decide +kernel
theorem s_sign : (Str.ofString "s" : Str) = oneSign 115 := by decide +kernel
def spRefusal (K : PySem.W.Frag) (C : Addr) (infos : List Info) : Sp := fun vs H Q _ => ∃ (p g : Addr) (F : List Addr) (h : House) (l : List Nat) (c : Nat) (I : Info), vs = [.ref p, nV c, .ref g] ∧ Handed K C infos H p g F h l c I ∧
  ∀ H' : Hp, Same H H' → Q (.int (refuseM I c h l)) H'
section
variable {P : Program} {w : World} {K : PySem.W.Frag} {mg : Str → Option Value} {base : Heap} {f C : Addr} {fd : FuncData} {infos : List Info}
theorem c_refusal (F : Fun K "refusal" "refusal" dRefusal f fd) (hm : mg "refusal" = some (.ref f)) (T : Txt K C) (Cs : Cst mg) (C2 : Cst2 mg) (tab : CTab P w K mg base C infos) (mS : MCal P w K mg base C 1 "size" ["self"] (spSize C))
    (cA : Cal P w K mg base 1 "is_above" ["letters", "given", "letter", "most"] (spAbove K)) (cS : Cal P w K mg base 1 "is_sure" ["signs"] spSure) (cD : Cal P w K mg base 4 "determinant" ["table"] (spDet K)) :
    Cal P w K mg base 5 "refusal" ["plant", "number", "given"] (spRefusal K C infos) := by
  refine ⟨f, fd, F.ok scRef (fun vs H Q E h => ?_) (fun cdv A outer s H vs Q E hr h => ?_), hm, F.kp, F.binds fun _ _ _ _ _ _ us hl => match us, hl with | [_, _, _], _ => rfl⟩
  · obtain ⟨_, _, _, _, _, _, _, rfl, _⟩ := h; rfl
  · obtain ⟨p, g, F, h, l, c, I, rfl, hd, k⟩ := h
    obtain ⟨d, ts, hC, hT, hrows⟩ := tab.ex
    obtain ⟨a, fc, hta, hrow, _⟩ := hrows c I hd.inf
    have hsq := hrow.sq (K := K)
    obtain ⟨dx, ta, pa, as, hF, h1, h2, h4, h3⟩ := hd.pl.tab
    have hn5 := hd.wf.n5
    refine ⟨_, pss_cons (ps_set (i := 3) scRef.nd rfl (Or.inl rfl) (pe_ix ix_tup (pe_kdict hT (pe_glob rfl hC rfl) (pv 1) (fun _ _ => rfl)) pe_int (fun _ _ => rfl)))
      (pss_cons (ps_if (pt_cmpR op_eq (pv 1) (pgc rfl C2.bg) (nomark _)) (pss_one (ps_ret (pe_ifExp (pt_chain op_le op_le pe_int (pe_ix ix_list (pv 2) pe_int (fun _ _ => rfl)) (pgc rfl C2.most)) pe_int (pgc rfl C2.nr)))) pss_nil)
      (pss_cons (ps_if (pt_cmpR op_eq (pmeth0 mS T hr (by decide) (pv 0)) pe_int (nomark _)) (pss_one (ps_ret (pgc rfl C2.nb))) pss_nil)
      (pss_cons (ps_if (pt_val (pcall cA hr (by decide) rfl (pa_cons (pv 3) (pa_cons (pv 2) (pa_cons pe_str (pa_cons (pe_op op_sub (pmeth0 mS T hr (by decide) (pv 0)) pe_int) pa_nil)))))) (pss_one (ps_ret (pgc rfl C2.nq))) pss_nil)
      (pss_cons (ps_if (pt_val (pcall cA hr (by decide) rfl (pa_cons (pv 3) (pa_cons (pv 2) (pa_cons pe_str (pa_cons (pgc rfl Cs.above) pa_nil)))))) (pss_one (ps_ret (pgc rfl C2.nr))) pss_nil)
      (pss_cons (ps_if (PW.pt (pw_and (pt_val (pe_ix ix_tup (pe_kdict hT (pe_glob rfl hC rfl) (pv 1) (fun _ _ => rfl)) pe_int (fun _ _ => rfl))) (pw_and1 (pt_not (pt_val (pcall cS hr (by decide) rfl (pa_cons (pcall cD hr (Nat.le_refl _) rfl (pa_cons (pe_fld (pv 0) rfl) pa_nil)) pa_nil)))))))
        (pss_one (ps_ret (pgc rfl C2.ns))) pss_nil)
      (pss_one (ps_ret pe_int))))))), ?_⟩
    refine ⟨_, rfl, c, a, rfl, hta, a, _, _, _, rfl, rfl, hsq H, at_of (j := 1) rfl rfl, ?_⟩
    have k0 := k
    unfold refuseM at k
    refine ⟨_, rfl, rfl, _, rfl, ?_⟩
    by_cases hc : c = 0
    · have e : decide (nV c = V.int 0) = true := by subst hc; rfl
      rw [e]
      rw [if_pos hc] at k
      have hl1 := hd.one hc
      obtain ⟨n, rfl⟩ : ∃ n, l = [n] := by
        match l, hl1 with
        | [n], _ => exact ⟨n, rfl⟩
      have k : ∀ H' : Hp, Same H H' → Q (.int (if 1 ≤ n ∧ n ≤ 5 then 0 else -22)) H' := k
      refine iteT ⟨_, rfl, g, _, _, _, rfl, rfl, hd.gv, at_of (j := 0) rfl rfl, _, _, rfl, rfl, _, rfl, ?_⟩
      by_cases h1n : 1 ≤ n
      · rw [decide_eq_true (show (1 : Int) ≤ (n : Int) by omega)]
        refine iteT ⟨_, _, rfl, rfl, _, rfl, ?_⟩
        by_cases h5n : n ≤ 5
        · rw [decide_eq_true (show (n : Int) ≤ 5 by omega)]
          rw [if_pos ⟨h1n, h5n⟩] at k
          exact iteT (k H (Same.refl H))
        · rw [decide_eq_false (show ¬ (n : Int) ≤ 5 by omega)]
          rw [if_neg (fun z => h5n z.2)] at k
          exact iteF (k H (Same.refl H))
      · rw [decide_eq_false (show ¬ (1 : Int) ≤ (n : Int) by omega)]
        rw [if_neg (fun z => h1n z.1)] at k
        exact iteF ⟨_, rfl, iteF (k H (Same.refl H))⟩
    · have e : decide (nV c = V.int 0) = false := decide_eq_false (by intro z; injection z with z; omega)
      rw [e]
      rw [if_neg hc] at k
      refine iteF ⟨_, rfl, p, dx, _, rfl, h1, pf_no _ _ (by decide +kernel) (by decide +kernel), p, F, h, rfl, hd.pl, by omega, rfl, _, rfl, ?_⟩
      by_cases hn : h.n = 0
      · have e : decide (nV h.n = V.int 0) = true := by rw [hn]; rfl
        rw [e]
        rw [if_pos hn] at k
        exact iteT (k H (Same.refl H))
      · have e : decide (nV h.n = V.int 0) = false := decide_eq_false (by intro z; injection z with z; omega)
        rw [e]
        rw [if_neg hn] at k
        refine iteF ⟨_, rfl, _, rfl, _, rfl, p, dx, _, rfl, h1, pf_no _ _ (by decide +kernel) (by decide +kernel), p, F, h, rfl, hd.pl, by omega, _, _, rfl, rfl, I.letters, g, l, 113, (h.n : Int) - 1, by rw [← q_sign]; rfl, hd.asc, hd.len, hd.few, hd.gv, fun H1 s1 => ⟨_, rfl, ?_⟩⟩
        cases hq : aboveM I.letters.cps.toList l 113 ((h.n : Int) - 1) with
        | true =>
          rw [if_pos hq] at k
          exact iteT (k H1 s1)
        | false =>
          rw [if_neg (by rw [hq]; exact Bool.false_ne_true)] at k
          refine iteF ⟨_, rfl, _, rfl, I.letters, g, l, 115, 2, by rw [← s_sign]; rfl, hd.asc, hd.len, hd.few, s1.seq hd.gv, fun H2 s2 => ⟨_, rfl, ?_⟩⟩
          cases hs : aboveM I.letters.cps.toList l 115 2 with
          | true =>
            rw [if_pos hs] at k
            exact iteT (k H2 (s1.trans s2))
          | false =>
            rw [if_neg (by rw [hs]; exact Bool.false_ne_true)] at k
            have s12 := s1.trans s2
            refine iteF ⟨_, rfl, c, a, rfl, hta, a, _, _, _, rfl, rfl, hsq H2, at_of (j := 2) rfl rfl, _, rfl, ?_⟩
            cases hsu : I.sure with
            | false =>
              rw [if_neg (fun z => by rw [hsu] at z; cases z.1)] at k
              exact iteF (iteF (k H2 s12))
            | true =>
              refine iteT ⟨_, rfl, p, C, dx, _, _, rfl, s12 _ _ h1, T.cl, T.nT, pf_tab _ _, ta, h.on, h.n, rfl, ⟨_, SqL.of (s12 _ _ h2), pr_imp (pr_map (K := K) h4) fun _ _ z => z.same s12⟩, hn5, hd.wf.len, hd.wf.sq, fun H3 s3 => ⟨Mth.detM h.on, rfl, _, rfl, ?_⟩⟩
              have s13 := s12.trans s3
              cases hsd : Kri4.sure (Mth.detM h.on) with
              | true =>
                rw [if_neg (fun z => by rw [hsd] at z; cases z.2)] at k
                exact iteF (k H3 s13)
              | false =>
                rw [if_pos ⟨hsu, hsd⟩] at k
                exact iteT (k H3 s13)
def nAns : List Str := ["plant", "number", "given", "refused", "called"]
theorem scAns : FnScope nAns ["plant", "number", "given"] (defScope dAnswer) := ⟨rfl, rfl, rfl, by decide +kernel, rfl, by decide +kernel, by decide +kernel⟩
def spAnswer (K : PySem.W.Frag) (C : Addr) (infos : List Info) : Sp := fun vs H Q _ => ∃ (p g : Addr) (F : List Addr) (h : House) (l : List Nat) (c : Nat) (I : Info), vs = [.ref p, nV c, .ref g] ∧ Handed K C infos H p g F h l c I ∧ (refuseM I c h l = 0 → I.pre h l) ∧
  ∀ (H' : Hp) (F' : List Addr) (r : Addr), Fin9 C H H' p F F' (postM I c h l) r → H' r = some (.lst ((ansM I c h l).map V.int)) → Q (.ref r) H'
theorem c_answer (F : Fun K "answer" "answer" dAnswer f fd) (hm : mg "answer" = some (.ref f)) (tab : CTab P w K mg base C infos) (cR : Cal P w K mg base 5 "refusal" ["plant", "number", "given"] (spRefusal K C infos)) :
    Cal P w K mg base 11 "answer" ["plant", "number", "given"] (spAnswer K C infos) := by
  refine ⟨f, fd, F.ok scAns (fun vs H Q E h => ?_) (fun cdv A outer s H vs Q E hr h => ?_), hm, F.kp, F.binds fun _ _ _ _ _ _ us hl => match us, hl with | [_, _, _], _ => rfl⟩
  · obtain ⟨_, _, _, _, _, _, _, rfl, _⟩ := h; rfl
  · obtain ⟨p, g, F, h, l, c, I, rfl, hd, hpre, k⟩ := h
    obtain ⟨d, ts, hC, hT, hrows⟩ := tab.ex
    obtain ⟨a, fc, hta, hrow, fdc, Fc, hk, hb⟩ := hrows c I hd.inf
    have hsq := hrow.sq (K := K)
    refine ⟨_, pss_cons (ps_set (i := 3) scAns.nd rfl (Or.inl rfl) (pcall cR hr (by decide) rfl (pa_cons (pv 0) (pa_cons (pv 1) (pa_cons (pv 2) pa_nil)))))
      (pss_cons (ps_if (pt_cmpR op_ne (pv 3) pe_int (nomark _)) (pss_one (ps_ret (pe_lst (pa_cons (pv 3) pa_nil)))) pss_nil)
      (pss_cons (ps_set (i := 4) scAns.nd rfl (Or.inl rfl) (pe_ix ix_tup (pe_kdict hT (pe_glob rfl hC rfl) (pv 1) (fun _ _ => rfl)) pe_int (fun _ _ => rfl)))
      (pss_one (ps_ret (pe_callL (k := 10) (ps := nCmd) hr (pv 4) (pa_cons (pv 0) (pa_cons (pv 2) pa_nil))))))), ?_⟩
    refine ⟨_, rfl, _, rfl, _, rfl, p, g, F, h, l, c, I, rfl, hd, fun H1 s1 => ?_⟩
    refine ⟨_, rfl, rfl, _, rfl, ?_⟩
    have hP1 := hd.pl.same s1
    unfold postM ansM at k
    by_cases hz : refuseM I c h l = 0
    · have e : (!decide (V.int (refuseM I c h l) = V.int 0)) = false := by rw [hz]; rfl
      rw [e]
      rw [if_pos hz, if_pos hz] at k
      refine iteF ⟨_, rfl, c, a, rfl, hta, a, _, _, _, rfl, rfl, hsq H1, at_of (j := 0) rfl rfl, ?_⟩
      refine ⟨_, rfl, fc, fdc, _, rfl, Fc, hk, hb, _, rfl, _, rfl, p, g, F, h, l, rfl, hP1, hd.wf, s1.seq hd.gv, hpre hz, fun H2 F2 r fin hr2 => ?_⟩
      refine k H2 F2 r ⟨fin.pl, ⟨fun b o e hb => fin.ch.but b o (s1 _ _ e) hb, fun b hb => (fin.ch.new b hb).imp id fun z => s1.free z⟩, fin.nr, fun b o e hb => fin.ne b o (s1 _ _ e) hb⟩ hr2
    · have e : (!decide (V.int (refuseM I c h l) = V.int 0)) = true := by
        rw [decide_eq_false]; · rfl
        intro z; injection z with z; exact hz z
      rw [e]
      rw [if_neg hz, if_neg hz] at k
      refine iteT ⟨_, rfl, one_le, fun r hr1 => ?_⟩
      exact k _ F r (fin9 hP1 (Chg.of_same s1) hr1) upd_same
end
end My


end
section
set_option Elab.async false
set_option linter.all false
set_option maxRecDepth 100000
set_option maxHeartbeats 4000000
namespace My
open PySem PySem.Spec PyProof.Rows L2
open Kri4 (times turned turnedSet)
open Kri8 (House)
def runM (infos : List Info) : Nat → House → List Nat → List Int
  | 0, _, _ => []
  | _ + 1, _, [] => []
  | fu + 1, h, c :: r => match infos[c]? with
    | none => []
    | some I => ((ansM I c h (r.take I.letters.cps.size)).length : Int) :: ansM I c h (r.take I.letters.cps.size) ++ runM infos fu (postM I c h (r.take I.letters.cps.size)) (r.drop I.letters.cps.size)
def Valid (infos : List Info) : Nat → House → List Nat → Prop
  | _, _, [] => True
  | 0, _, _ :: _ => False
  | fu + 1, h, c :: r => ∃ I, infos[c]? = some I ∧ I.letters.cps.size ≤ r.length ∧ I.letters.cps.all (· < 128) = true ∧ (c = 0 → I.letters.cps.size = 1) ∧ (refuseM I c h (r.take I.letters.cps.size) = 0 → I.pre h (r.take I.letters.cps.size)) ∧
    Wf (postM I c h (r.take I.letters.cps.size)) ∧ (ansM I c h (r.take I.letters.cps.size)).length ≤ 100 ∧ Valid infos fu (postM I c h (r.take I.letters.cps.size)) (r.drop I.letters.cps.size)
def nAnswers : List Str := ["calls", "plant", "told", "at", "number", "behind", "numbers"]
theorem scAnswers : FnScope nAnswers ["calls"] (defScope dAnswers) := ⟨rfl, rfl, rfl, by decide +kernel, rfl, by decide +kernel, by decide +kernel⟩
def h00 : House := ⟨[], []⟩
theorem wf00 : Wf h00 := ⟨by decide, rfl, fun r h => (by cases h), fun x h => (by cases h)⟩
def spAnswers (K : PySem.W.Frag) (infos : List Info) : Sp := fun vs H Q _ => ∃ (a : Addr) (ns : List Nat) (fu : Nat), vs = [.ref a] ∧ SqL K H a (ns.map nV) ∧ ns.length ≤ 240 ∧ Valid infos fu h00 ns ∧
  ∀ (H' : Hp) (q : Addr), H' q = some (.lst ((runM infos fu h00 ns).map V.int)) → Q (.ref q) H'
theorem cut_mid (xs : List V) (i j : Nat) (h1 : i ≤ j) (h2 : j ≤ xs.length) : cutV xs (some (i : Int)) (some (j : Int)) = (xs.drop i).take (j - i) := by
  unfold cutV
  rw [HT.sIx_nat, HT.sIx_nat, show min i xs.length = i by omega, show min j xs.length = j by omega]
theorem drop_at {α : Type} {l : List α} {k : Nat} {c : α} {r : List α} (h : l.drop k = c :: r) : l[k]? = some c ∧ l.drop (k + 1) = r ∧ k < l.length := by
  have hk : k < l.length := by
    by_cases hk : k < l.length
    · exact hk
    · rw [List.drop_eq_nil_of_le (by omega)] at h; cases h
  rw [List.drop_eq_getElem_cons hk] at h
  injection h with h1 h2
  exact ⟨by rw [List.getElem?_eq_getElem hk, h1], h2, hk⟩
def LoopAt (C : Addr) (infos : List Info) (H : Hp) (a p q : Addr) (ns : List Nat) (fu kk : Nat) (σ : L2.St) (H' : Hp) : Prop := ∃ (o4 o5 o6 : Option V) (h : House) (F : List Addr) (out : List Int) (fv : Nat), σ = [some (.ref a), some (.ref p), some (.ref q), some (nV kk), o4, o5, o6] ∧ Same H H' ∧
  PlantAt C H' p F h ∧ Wf h ∧ (∀ b ∈ F, H b = none) ∧ q ∉ F ∧ H q = none ∧ H' q = some (.lst (out.map V.int)) ∧ out.length ≤ 101 * kk ∧ Valid infos fv h (ns.drop kk) ∧ runM infos fu h00 ns = out ++ runM infos fv h (ns.drop kk)
section
variable {P : Program} {w : World} {K : PySem.W.Frag} {mg : Str → Option Value} {base : Heap} {f C fI : Addr} {fd fdI : FuncData} {infos : List Info}
theorem c_answers (F : Fun K "answers" "answers" dAnswers f fd) (T : Txt K C) (B : Blt mg) (M : Mk K C fI) (hC : mg "Plant" = some (.ref C)) (GI : FnOk P w K mg base CX0 1 fI fdI ["self"] (spInit C)) (bI : Binds K fdI ["self"] [])
    (tab : CTab P w K mg base C infos) (cA : Cal P w K mg base 11 "answer" ["plant", "number", "given"] (spAnswer K C infos)) : FnOk P w K mg base CX0 12 f fd ["calls"] (spAnswers K infos) := by
  refine F.ok scAnswers (fun vs H Q E h => ?_) (fun cdv A outer s H vs Q E hr h => ?_)
  · obtain ⟨_, _, _, rfl, _⟩ := h; rfl
  · obtain ⟨a, ns, fu, rfl, hS, hlen, hV, k⟩ := h
    obtain ⟨d, ts, hCC, hT, hrows⟩ := tab.ex
    refine ⟨_, pss_cons (ps_set (i := 1) scAnswers.nd rfl (Or.inl rfl) (pe_make0 M GI (hr.mono (by decide)) rfl hC bI .nil pass0))
      (pss_cons (ps_set (i := 2) scAnswers.nd rfl (Or.inl rfl) (pe_lst pa_nil))
      (pss_cons (ps_set (i := 3) scAnswers.nd rfl (Or.inl rfl) pe_int)
      (pss_cons (ps_while PassesOwn.never (pt_cmpR op_lt (pv 3) (pe_callB call_len_seq (by rfl) B.len PySem.boot_len (pa_cons (pv 0) pa_nil)) (nomark _))
        (pss_cons (ps_set (i := 4) scAnswers.nd rfl (Or.inl rfl) (pe_ix ix_list (pv 0) (pv 3) (fun _ _ => rfl)))
        (pss_cons (ps_set (i := 5) scAnswers.nd rfl (Or.inl rfl) (pe_op op_add (pe_op op_add (pv 3) pe_int) (pe_callB call_len_str (by rfl) B.len PySem.boot_len (pa_cons (pe_ix ix_tup (pe_kdict hT (pe_glob rfl hCC rfl) (pv 4) (fun _ _ => rfl)) pe_int (fun _ _ => rfl)) pa_nil))))
        (pss_cons (ps_set (i := 6) scAnswers.nd rfl (Or.inl rfl) (pcall cA hr (Nat.le_refl _) rfl (pa_cons (pv 1) (pa_cons (pv 4) (pa_cons (pe_slice sl_list (pv 0) (po_some (pe_op op_add (pv 3) pe_int)) (po_some (pv 5))) pa_nil)))))
        (pss_cons (ps_expr (pe_bm PySem.F.plainAttrs_list PySem.F.slot_list_append PySem.F.type_list_append mt_append (pv 2) (pa_cons (pe_callB call_len_seq (by rfl) B.len PySem.boot_len (pa_cons (pv 6) pa_nil)) pa_nil)))
        (pss_cons (ps_expr (pe_bm PySem.F.plainAttrs_list PySem.F.slot_list_extend PySem.F.type_list_extend mt_extend (pv 2) (pa_cons (pv 6) pa_nil)))
        (pss_one (ps_set (i := 3) scAnswers.nd rfl (Or.inl rfl) (pv 5)))))))))
      (pss_one (ps_ret (pv 2)))))), ?_⟩
    intro p dx hp hdx hne
    refine ⟨p, dx, rfl, upd_same, fun H1 F1 hP1 hk1 hn1 => ⟨rfl, ?_⟩⟩
    have s1 : Same H H1 := Same.made hp hdx hk1
    have f1 : ∀ b ∈ F1, H b = none := fun b hb => by
      rcases hn1 b hb with z | z
      · rw [z]; exact hp
      · by_cases hbp : b = p
        · rw [hbp]; exact hp
        · by_cases hbd : b = dx
          · rw [hbd]; exact hdx
          · rw [upd_ne hbp, upd_ne hbd] at z; exact z
    refine ⟨Nat.zero_le _, fun q hq => ?_⟩
    have s2 : Same H1 (upd H1 q (.lst [])) := (Same.refl H1).upd hq
    have qF : q ∉ F1 := fun z => by
      obtain ⟨o, ho⟩ := hP1.there z
      rw [hq] at ho; cases ho
    refine ⟨fun m σ H' => ∃ kk, kk ≤ ns.length ∧ m = ns.length - kk ∧ LoopAt C infos H a p q ns fu kk σ H', ⟨ns.length, 0, Nat.zero_le _, rfl, none, none, none, h00, F1, [], fu, rfl, s1.trans s2, hP1.same s2, wf00, f1, qF, s1.free hq, upd_same, by simp, hV, rfl⟩, ?_⟩
    rintro m σ H' ⟨kk, hkk, rfl, o4, o5, o6, h, F, out, fv, rfl, s3, hP, wf, hF, hqF, hq0, hqo, hol, hval, hrun⟩
    have hS' := s3.seq hS
    refine ⟨_, rfl, _, rfl, a, _, rfl, .inl hS', _, _, rfl, rfl, _, rfl, ?_⟩
    rw [List.length_map]
    cases hdr : ns.drop kk with
    | nil =>
      have hle : ns.length ≤ kk := List.drop_eq_nil_iff.mp hdr
      rw [decide_eq_false (show ¬ ((kk : Nat) : Int) < ((ns.length : Nat) : Int) by omega)]
      refine iteF ⟨_, rfl, k H' q ?_⟩
      rw [hdr] at hrun
      have e : runM infos fv h [] = [] := by cases fv <;> rfl
      rw [hrun, e, List.append_nil]; exact hqo
    | cons c r =>
      obtain ⟨hc, hr1, hkl⟩ := drop_at hdr
      rw [decide_eq_true (show ((kk : Nat) : Int) < ((ns.length : Nat) : Int) by omega)]
      rw [hdr] at hval hrun
      cases fv with
      | zero => exact hval.elim
      | succ fv =>
        obtain ⟨I, hI, hsz, hasc, hone, hpre, hwf', hal, hval'⟩ := hval
        obtain ⟨ad, fc, hta, hrow, _⟩ := hrows c I hI
        have hsq := hrow.sq (K := K)
        have hrl : r.length = ns.length - (kk + 1) := by rw [← hr1, List.length_drop]
        have erun : runM infos (fv + 1) h (c :: r) = ((ansM I c h (r.take I.letters.cps.size)).length : Int) :: ansM I c h (r.take I.letters.cps.size) ++ runM infos fv (postM I c h (r.take I.letters.cps.size)) (r.drop I.letters.cps.size) := by
          show (match infos[c]? with | none => _ | some I => _) = _
          rw [hI]
        rw [erun] at hrun
        generalize hL : r.take I.letters.cps.size = l at *
        have hll : l.length = I.letters.cps.size := by rw [← hL, List.length_take]; omega
        refine iteT ⟨LoopAt C infos H a p q ns fu (kk + 1 + I.letters.cps.size), fun σ' H'' z => ⟨ns.length - (kk + 1 + I.letters.cps.size), by omega, kk + 1 + I.letters.cps.size, by omega, rfl, z⟩, ?_⟩
        · refine ⟨_, rfl, _, rfl, a, _, _, _, rfl, rfl, hS', atI_nat (v := nV c) (by rw [List.getElem?_map, hc]; rfl), ?_⟩
          refine ⟨_, rfl, _, _, rfl, rfl, _, rfl, c, ad, rfl, hta, ad, _, _, _, rfl, rfl, hsq H', at_of (j := 1) rfl rfl, I.letters, rfl, Nat.le_of_lt (small (by show I.letters.cps.size ≤ _; omega)), _, _, rfl, rfl, ?_⟩
          refine ⟨_, rfl, _, rfl, _, rfl, _, rfl, _, _, rfl, rfl, _, rfl, _, rfl, _, rfl, a, _, rfl, hS', fun g hg => ?_⟩
          have ecut : cutV (ns.map nV) (some ((kk : Int) + 1)) (some ((kk : Int) + 1 + ((I.letters.length : Nat) : Int))) = l.map nV := by
            have e1 : ((kk : Nat) : Int) + 1 = ((kk + 1 : Nat) : Int) := by omega
            have e2 : ((kk : Nat) : Int) + 1 + ((I.letters.length : Nat) : Int) = ((kk + 1 + I.letters.length : Nat) : Int) := by omega
            rw [e1]
            rw [show ((kk + 1 : Nat) : Int) + ((I.letters.length : Nat) : Int) = ((kk + 1 + I.letters.length : Nat) : Int) by omega]
            have hlg : I.letters.length = I.letters.cps.size := rfl
            rw [cut_mid _ _ _ (by omega) (by rw [List.length_map]; omega), ← List.map_drop, hr1, ← List.map_take, hlg, show kk + 1 + I.letters.cps.size - (kk + 1) = I.letters.cps.size by omega, hL]
          have s4 : Same H' (upd H' g (.lst (cutV (ns.map nV) (some ((kk : Int) + 1)) (some ((kk : Int) + 1 + ((I.letters.length : Nat) : Int)))))) := (Same.refl H').upd hg
          refine ⟨p, g, F, h, l, c, I, rfl, ⟨hP.same s4, wf, SqL.of (by rw [upd_same, ecut]), hI, hll.symm, hasc, by omega, fun z => by rw [hll]; exact hone z⟩, hpre, fun H2 F2 r2 fin hr2 => ?_⟩
          have hq2 : H2 q = some (.lst (out.map V.int)) := fin.ch.but q _ (s4 _ _ hqo) hqF
          have qr : q ≠ r2 := fin.ne q _ (s4 _ _ hqo) hqF
          have f2 : ∀ b ∈ F2, H b = none := fun b hb => by
            rcases fin.ch.new b hb with z | z
            · exact hF b z
            · exact s3.free (s4.free z)
          have qF2 : q ∉ F2 := fun z => by
            rcases fin.ch.new q z with z2 | z2
            · exact hqF z2
            · rw [s4 _ _ hqo] at z2; cases z2
          have sH2 : Same H H2 := fun b o e => fin.ch.but b o (s4 _ _ (s3 _ _ e)) fun z => by rw [hF b z] at e; cases e
          refine ⟨_, rfl, .inl ⟨rfl, _, SqL.of hq2⟩, _, rfl, r2, _, rfl, .inl (SqL.of hr2), q, _, _, rfl, rfl, hq2, small (by rw [List.length_map]; omega), ?_⟩
          rw [List.length_map]
          refine ⟨_, rfl, .inl ⟨rfl, _, SqL.of upd_same⟩, _, rfl, q, r2, _, _, rfl, rfl, upd_same, by rw [upd_ne qr.symm]; exact hr2, Nat.le_of_lt (small (by simp; omega)), ?_⟩
          refine ⟨_, rfl, some (nV c), some (nV (kk + 1 + I.letters.cps.size)), some (.ref r2), postM I c h l, F2, out ++ ((ansM I c h l).length : Int) :: ansM I c h l, fv, ?_, ?_, ?_, hwf', f2, qF2, hq0, ?_, ?_, ?_, ?_⟩
          · have e5 : ((kk : Nat) : Int) + 1 + ((I.letters.length : Nat) : Int) = ((kk + 1 + I.letters.cps.size : Nat) : Int) := by
              have : I.letters.length = I.letters.cps.size := rfl
              omega
            show [some (V.ref a), some (V.ref p), some (V.ref q), some (V.int (((kk : Nat) : Int) + 1 + ((I.letters.length : Nat) : Int))), some (nV c), some (V.int (((kk : Nat) : Int) + 1 + ((I.letters.length : Nat) : Int))), some (V.ref r2)] = _
            rw [e5]
          · intro b o e
            have n : b ≠ q := fun z => by rw [z, hq0] at e; cases e
            rw [upd_ne n, upd_ne n]; exact sH2 b o e
          · have hx : ∀ o1 o2, PlantAt C (upd (upd H2 q o1) q o2) p F2 (postM I c h l) := fun o1 o2 => by
              obtain ⟨dx', ta', pa', as', hF', g1, g2, g3, g4, g5⟩ := fin.pl
              have nq : ∀ b ∈ F2, b ≠ q := fun b hb z => qF2 (z ▸ hb)
              have st : ∀ b ∈ F2, ∀ o, H2 b = some o → upd (upd H2 q o1) q o2 b = some o := fun b hb o e => by rw [upd_ne (nq b hb), upd_ne (nq b hb)]; exact e
              exact ⟨dx', ta', pa', as', hF', st p (by rw [hF']; simp) _ g1, st ta' (by rw [hF']; simp) _ g2, st pa' (by rw [hF']; simp) _ g3, pr_keep g4 fun b hb o e => st b (by rw [hF']; simp [hb]) o e, g5⟩
            exact hx _ _
          · rw [upd_same, List.map_append, List.append_assoc]; rfl
          · simp; omega
          · rw [← List.drop_drop, hr1]; exact hval'
          · rw [hrun, ← List.drop_drop, hr1]; simp
end
end My


end
section
set_option Elab.async false
set_option linter.all false
set_option maxRecDepth 100000
set_option maxHeartbeats 4000000
namespace My
open PySem L2
open Kri4 (times turned turnedSet)
open Kri8 (House)
theorem det_eq {h : House} (wf : Wf h) : Mth.detM h.on = h.det := Mth.detM_eq h.on h.n wf.len wf.sq
theorem at2_repl {T : List (List Nat)} {Ps : List Nat} {n q : Nat} (hT : Sq n T) (hl : T.length = n) (hp : Ps.length = n) (hq : q < n) {i k : Nat} (hi : i < n) (hk : k < n) :
    Mth.at2 (repl T Ps q) i k = Kri8.put (Mth.at2 T) Ps q i k := by
  have e1 : T[i]? = some T[i] := List.getElem?_eq_getElem (by omega)
  have e2 : Ps[i]? = some Ps[i] := List.getElem?_eq_getElem (by omega)
  have hr := (hT T[i] (List.getElem_mem _)).1
  unfold Mth.at2 Kri8.put
  rw [List.getD_eq_getElem?_getD (l := repl T Ps q), repl_get q e1 e2, List.getD_eq_getElem?_getD (l := Ps), e2]
  show (T[i].set q (turned Ps[i])).getD k 1 = if k = q then turned Ps[i] else (T.getD i []).getD k 1
  rw [List.getD_eq_getElem?_getD (l := T), e1]
  show (T[i].set q (turned Ps[i])).getD k 1 = if k = q then turned Ps[i] else T[i].getD k 1
  rw [List.getD_eq_getElem?_getD, List.getD_eq_getElem?_getD]
  by_cases h : k = q
  · subst h
    rw [if_pos rfl, List.getElem?_set_self (by omega)]; rfl
  · rw [if_neg h, List.getElem?_set_ne (fun z => h z.symm)]
theorem change_eq {h : House} (wf : Wf h) {Ps : List Nat} (hp : Ps.length = h.n) {q : Nat} (hq : q < h.n) (hs : Kri4.sure h.det = true) : changeM h.on Ps q = h.endsBy Ps q := by
  have e1 : Mth.detM (repl h.on Ps q) = Kri4.detSet (Kri8.put h.at_ Ps q) h.n := by
    rw [Mth.detM_eq (repl h.on Ps q) h.n (by rw [repl_len q (by rw [wf.len, hp]), wf.len]) (repl_sq q h.n wf.sq)]
    refine Mth.detSet_congr fun i j hi hj => ?_
    exact at2_repl wf.sq wf.len hp hq hi hj
  unfold changeM House.endsBy
  rw [e1, det_eq wf]
  unfold Kri4.sure at hs
  by_cases h1 : h.det = 1
  · rw [if_pos h1, if_neg (by omega)]
  · rw [if_neg h1, if_pos]
    have : (h.det == 1) = false := beq_eq_false_iff_ne.mpr h1
    rw [this, Bool.false_or] at hs
    exact eq_of_beq hs
def absH (h : House) : Option House := if h.n = 0 then none else some h
theorem abs_some {h : House} (hn : ¬ h.n = 0) : absH h = some h := if_neg hn
theorem abs_none {h : House} (hn : h.n = 0) : absH h = none := if_pos hn
theorem above_nil (l : List Nat) (c : Nat) (m : Int) : aboveM [] l c m = false := rfl
theorem above_cons (x y : Nat) (xs l : List Nat) (c : Nat) (m : Int) : aboveM (x :: xs) (y :: l) c m = (x == c && decide (m < (y : Int)) || aboveM xs l c m) := by
  unfold aboveM; rw [List.zip_cons_cons, List.any_cons]
theorem no_eq {h : House} (hn : ¬ h.n = 0) (j : Nat) : decide ((h.n : Int) - 1 < (j : Int)) = decide (h.n ≤ j) := by
  by_cases e : h.n ≤ j
  · rw [decide_eq_true e, decide_eq_true (by omega)]
  · rw [decide_eq_false e, decide_eq_false (by omega)]
theorem two_eq (s : Nat) : decide ((2 : Int) < (s : Int)) = decide (2 < s) := by
  by_cases e : 2 < s
  · rw [decide_eq_true e, decide_eq_true (by omega)]
  · rw [decide_eq_false e, decide_eq_false (by omega)]
def rawC (c : Nat) (l : List Nat) : List (List Int) := [(c : Int) :: l.map fun (x : Nat) => (x : Int)]
structure StepOk (c : Nat) (I : Info) (h : House) (l : List Nat) : Prop where
  step : Kri8Neutral.step (absH h) (rawC c l) = (absH (postM I c h l), ansM I c h l)
  pre : refuseM I c h l = 0 → I.pre h l
  wf : Wf (postM I c h l)
  few : (ansM I c h l).length ≤ 100
theorem step_of {s : Option House} {c : Kri8Neutral.Call} {s' : Option House} {a : Kri8.Ans} (h : Kri8.act s (Kri8Neutral.call c) = (s', a)) : Kri8Neutral.step s c = (s', Kri8Neutral.told a) := by
  unfold Kri8Neutral.step; rw [h]
theorem refused {c : Nat} {I : Info} {h : House} {l : List Nat} {z : Int} (wf : Wf h) (hz : refuseM I c h l = z) (h0 : z ≠ 0) (ha : Kri8.act (absH h) (Kri8Neutral.call (rawC c l)) = (absH h, Kri8.say z)) : StepOk c I h l := by
  have hne : ¬ refuseM I c h l = 0 := by rw [hz]; exact h0
  refine ⟨?_, fun e => absurd e hne, ?_, ?_⟩
  · rw [step_of ha]; unfold postM ansM; rw [if_neg hne, if_neg hne, hz]; rfl
  · unfold postM; rw [if_neg hne]; exact wf
  · unfold ansM; rw [if_neg hne]; show (1 : Nat) ≤ 100; decide
theorem answered {c : Nat} {I : Info} {h : House} {l : List Nat} {a : Kri8.Ans} (hz : refuseM I c h l = 0) (hp : I.pre h l) (hw : Wf (I.post h l)) (hf : (I.ans h l).length ≤ 100) (ha : Kri8.act (absH h) (Kri8Neutral.call (rawC c l)) = (absH (I.post h l), a)) (hn : Kri8Neutral.told a = I.ans h l) : StepOk c I h l := by
  refine ⟨?_, fun _ => hp, ?_, ?_⟩
  · rw [step_of ha]; unfold postM ansM; rw [if_pos hz, if_pos hz, hn]
  · unfold postM; rw [if_pos hz]; exact hw
  · unfold ansM; rw [if_pos hz]; exact hf
theorem unbegun {c : Nat} {I : Info} {h : House} {l : List Nat} (wf : Wf h) (hc : ¬ c = 0) (hn : h.n = 0) (ha : Kri8.act none (Kri8Neutral.call (rawC c l)) = (none, Kri8.say (-11))) : StepOk c I h l :=
  refused wf (z := -11) (by unfold refuseM; rw [if_neg hc, if_pos hn]) (by decide) (by rw [abs_none hn]; exact ha)
def iBegin : Info := ⟨"n", false, qBegin, pBegin, fun _ _ => [0]⟩
def iAction : Info := ⟨"qqs", false, qAction, pAction, aAction⟩
def iPush : Info := ⟨"qs", false, qPush, pPush, aPush⟩
def iCalm : Info := ⟨"", false, qNil, pCalm, aCalm⟩
def iTurn : Info := ⟨"q", false, qOne, pTurn, fun _ _ => [0]⟩
def iDet : Info := ⟨"", false, qNil, pSame, aDet⟩
def iEnds : Info := ⟨"q", true, qOne, pSame, aEnds⟩
def iAll : Info := ⟨"", true, qNil, pSame, aAll⟩
def iIf : Info := ⟨"qsq", true, qIf, pSame, aIf⟩
def iRow : Info := ⟨"q", true, qOne, pSame, aRow⟩
def iWithout : Info := ⟨"qq", false, qTwo, pSame, aWithout⟩
theorem codes_q : (Str.ofString "q").cps.toList = [113] := by decide +kernel
theorem codes_qs : (Str.ofString "qs").cps.toList = [113, 115] := by decide +kernel
theorem codes_qq : (Str.ofString "qq").cps.toList = [113, 113] := by decide +kernel
theorem codes_qqs : (Str.ofString "qqs").cps.toList = [113, 113, 115] := by decide +kernel
theorem codes_qsq : (Str.ofString "qsq").cps.toList = [113, 115, 113] := by decide +kernel
theorem codes_ : (Str.ofString "").cps.toList = [] := by decide +kernel
theorem refuse_of {c : Nat} {I : Info} {h : House} {l : List Nat} {xs : List Nat} {bq bs : Bool} (hc : ¬ c = 0) (hn : ¬ h.n = 0) (hx : I.letters.cps.toList = xs) (hq : aboveM xs l 113 ((h.n : Int) - 1) = bq) (hs : aboveM xs l 115 2 = bs) :
    refuseM I c h l = if bq = true then -2 else if bs = true then -22 else if I.sure = true ∧ Kri4.sure (Mth.detM h.on) = false then -33 else 0 := by
  unfold refuseM
  rw [if_neg hc, if_neg hn, hx, hq, hs]
theorem fresh_wf {n : Nat} (hn : n ≤ 5) : Wf (fresh n) := by
  have e : (fresh n).n = n := by show (List.replicate n 1).length = n; simp
  refine ⟨by rw [e]; exact hn, by rw [e]; simp [fresh], ?_, fun x hx => ?_⟩
  · rw [e]
    intro r hr
    have := List.eq_of_mem_replicate (show r ∈ List.replicate n (List.replicate n 1) from hr)
    subst this
    refine ⟨by simp, fun x hx => ?_⟩
    have := List.eq_of_mem_replicate hx; omega
  · have := List.eq_of_mem_replicate (show x ∈ List.replicate n 1 from hx); omega
theorem st_begin {h : House} (wf : Wf h) (n : Nat) : StepOk 0 iBegin h [n] := by
  have hr : refuseM iBegin 0 h [n] = if 1 ≤ n ∧ n ≤ 5 then 0 else -22 := by unfold refuseM; rw [if_pos rfl]; rfl
  have ha : Kri8.act (absH h) (Kri8Neutral.call (rawC 0 [n])) = if n = 0 ∨ Kri8.most < n then (absH h, Kri8.say (-22)) else (some ⟨List.replicate n (List.replicate n 1), List.replicate n 1⟩, Kri8.say 0) := by
    show Kri8.act (absH h) (.begin_ ((n : Int).toNat)) = _
    rw [Int.toNat_natCast]; rfl
  by_cases hn : 1 ≤ n ∧ n ≤ 5
  · rw [if_pos hn] at hr
    rw [if_neg (by show ¬ (n = 0 ∨ 5 < n); omega)] at ha
    refine answered hr ⟨n, rfl, hn.2⟩ (fresh_wf hn.2) (by show (1 : Nat) ≤ 100; decide) (a := Kri8.say 0) ?_ rfl
    rw [ha]
    show _ = (absH (fresh n), _)
    rw [abs_some (by show ¬ (List.replicate n 1).length = 0; simp; omega)]; rfl
  · rw [if_neg hn] at hr
    rw [if_pos (by show n = 0 ∨ 5 < n; omega)] at ha
    exact refused wf hr (by decide) ha
theorem st_action {h : House} (wf : Wf h) (j i s : Nat) : StepOk 1 iAction h [j, i, s] := by
  by_cases hn : h.n = 0
  · exact unbegun wf (by decide) hn rfl
  · have hr := refuse_of (c := 1) (I := iAction) (h := h) (l := [j, i, s]) (by decide) hn codes_qqs rfl rfl
    simp only [above_cons, above_nil, no_eq hn, two_eq] at hr
    have ha : Kri8.act (absH h) (Kri8Neutral.call (rawC 1 [j, i, s])) = if (decide (h.n ≤ j) || decide (h.n ≤ i)) = true then (absH h, Kri8.say (-2)) else if 2 < s then (absH h, Kri8.say (-22)) else (some (h.set i j s), Kri8.say (h.at_ i j)) := by
      rw [abs_some hn]
      show Kri8.act (some h) (.action ((j : Int).toNat) ((i : Int).toNat) ((s : Int).toNat)) = _
      rw [Int.toNat_natCast, Int.toNat_natCast, Int.toNat_natCast]; rfl
    by_cases h1 : h.n ≤ j ∨ h.n ≤ i
    · rw [if_pos (by simp; omega)] at hr
      rw [if_pos (by simp; omega)] at ha
      exact refused wf hr (by decide) ha
    · rw [if_neg (by simp; omega)] at hr
      rw [if_neg (by simp; omega)] at ha
      by_cases h2 : 2 < s
      · rw [if_pos (by simp; omega)] at hr
        rw [if_pos h2] at ha
        exact refused wf hr (by decide) ha
      · rw [if_neg (by simp; omega), if_neg (fun z => by cases z.1)] at hr
        rw [if_neg h2] at ha
        refine answered hr ⟨j, i, s, rfl, by omega, by omega, by omega⟩ (without_wf wf (by show i < _; omega) (by show j < _; omega) s (by omega)) (by show (1 : Nat) ≤ 100; decide) (a := Kri8.say (h.at_ i j)) ?_ rfl
        rw [ha]
        show _ = (absH (h.set i j s), _)
        rw [abs_some (show ¬ (h.set i j s).n = 0 from hn)]
end My


end
section
set_option Elab.async false
set_option linter.all false
set_option maxRecDepth 100000
set_option maxHeartbeats 4000000
namespace My
open PySem L2
open Kri4 (times turned turnedSet)
open Kri8 (House)
theorem st_push {h : House} (wf : Wf h) (i s : Nat) : StepOk 2 iPush h [i, s] := by
  by_cases hn : h.n = 0
  · exact unbegun wf (by decide) hn rfl
  · have hr := refuse_of (c := 2) (I := iPush) (h := h) (l := [i, s]) (by decide) hn codes_qs rfl rfl
    simp only [above_cons, above_nil, no_eq hn, two_eq] at hr
    have ha : Kri8.act (absH h) (Kri8Neutral.call (rawC 2 [i, s])) = if decide (h.n ≤ i) = true then (absH h, Kri8.say (-2)) else if 2 < s then (absH h, Kri8.say (-22)) else (some { h with push := h.push.set i s }, Kri8.say (h.push.getD i 1)) := by
      rw [abs_some hn]
      show Kri8.act (some h) (.push ((i : Int).toNat) ((s : Int).toNat)) = _
      rw [Int.toNat_natCast, Int.toNat_natCast]; rfl
    by_cases h1 : h.n ≤ i
    · rw [if_pos (by simp; omega)] at hr
      rw [if_pos (by simpa using h1)] at ha
      exact refused wf hr (by decide) ha
    · rw [if_neg (by simp; omega)] at hr
      rw [if_neg (by simpa using h1)] at ha
      by_cases h2 : 2 < s
      · rw [if_pos (by simp; omega)] at hr
        rw [if_pos h2] at ha
        exact refused wf hr (by decide) ha
      · rw [if_neg (by simp; omega), if_neg (fun z => by cases z.1)] at hr
        rw [if_neg h2] at ha
        have en : (House.mk h.on (h.push.set i s)).n = h.n := by show (h.push.set i s).length = _; rw [List.length_set]; rfl
        refine answered hr ⟨i, s, rfl, by omega, by omega⟩ ?_ (by show (1 : Nat) ≤ 100; decide) (a := Kri8.say (h.push.getD i 1)) ?_ rfl
        · show Wf ⟨h.on, h.push.set i s⟩
          refine ⟨by rw [en]; exact wf.n5, by rw [en]; exact wf.len, by rw [en]; exact wf.sq, fun x hx => ?_⟩
          rcases List.mem_or_eq_of_mem_set (show x ∈ h.push.set i s from hx) with hx | hx
          · exact wf.psh x hx
          · omega
        · rw [ha]
          show _ = (absH ⟨h.on, h.push.set i s⟩, _)
          rw [abs_some (by rw [en]; exact hn)]
theorem st_calm {h : House} (wf : Wf h) : StepOk 3 iCalm h [] := by
  by_cases hn : h.n = 0
  · exact unbegun wf (by decide) hn rfl
  · have hr := refuse_of (c := 3) (I := iCalm) (h := h) (l := []) (by decide) hn codes_ rfl rfl
    rw [above_nil, above_nil, if_neg (by decide), if_neg (by decide), if_neg (fun z => by cases z.1)] at hr
    have en : (House.mk h.on (List.replicate h.n 1)).n = h.n := by show (List.replicate h.n 1).length = _; simp
    refine answered hr rfl ?_ (by show (1 : Nat) ≤ 100; decide) (a := Kri8.say (h.push.filter fun s => s != 1).length) ?_ rfl
    · show Wf ⟨h.on, List.replicate h.n 1⟩
      refine ⟨by rw [en]; exact wf.n5, by rw [en]; exact wf.len, by rw [en]; exact wf.sq, fun x hx => ?_⟩
      have := List.eq_of_mem_replicate (show x ∈ List.replicate h.n 1 from hx); omega
    · show _ = (absH ⟨h.on, List.replicate h.n 1⟩, _)
      rw [abs_some hn, abs_some (by rw [en]; exact hn)]; rfl
theorem turns_wf {h : House} (wf : Wf h) {i : Nat} (hi : i < h.n) : Wf (h.turns i) := by
  show Wf ⟨tabOf h.n (fun k j => h.turnedAt i k j), h.push.set i (turned (h.push.getD i 1))⟩
  refine tab_wf wf.n5 (by rw [List.length_set]; rfl) (fun k j hk hj => ?_) fun x hx => ?_
  · unfold House.turnedAt
    split
    · exact at_le wf k j hk hj
    · exact Mth.turned_le _
  · rcases List.mem_or_eq_of_mem_set hx with hx | hx
    · exact wf.psh x hx
    · rw [hx]; exact Mth.turned_le _
theorem st_turn {h : House} (wf : Wf h) (i : Nat) : StepOk 4 iTurn h [i] := by
  by_cases hn : h.n = 0
  · exact unbegun wf (by decide) hn rfl
  · have hr := refuse_of (c := 4) (I := iTurn) (h := h) (l := [i]) (by decide) hn codes_q rfl rfl
    simp only [above_cons, above_nil, no_eq hn, two_eq] at hr
    have ha : Kri8.act (absH h) (Kri8Neutral.call (rawC 4 [i])) = if decide (h.n ≤ i) = true then (absH h, Kri8.say (-2)) else (some (h.turns i), Kri8.say 0) := by
      rw [abs_some hn]
      show Kri8.act (some h) (.turn ((i : Int).toNat)) = _
      rw [Int.toNat_natCast]; rfl
    by_cases h1 : h.n ≤ i
    · rw [if_pos (by simp; omega)] at hr
      rw [if_pos (by simpa using h1)] at ha
      exact refused wf hr (by decide) ha
    · rw [if_neg (by simp; omega), if_neg (by simp), if_neg (fun z => by cases z.1)] at hr
      rw [if_neg (by simpa using h1)] at ha
      have en : (h.turns i).n = h.n := by show (h.push.set i _).length = _; rw [List.length_set]; rfl
      refine answered hr ⟨i, rfl, by omega⟩ (turns_wf wf (by show i < _; omega)) (by show (1 : Nat) ≤ 100; decide) (a := Kri8.say 0) ?_ rfl
      rw [ha]
      show _ = (absH (h.turns i), _)
      rw [abs_some (by rw [en]; exact hn)]
theorem st_det {h : House} (wf : Wf h) : StepOk 5 iDet h [] := by
  by_cases hn : h.n = 0
  · exact unbegun wf (by decide) hn rfl
  · have hr := refuse_of (c := 5) (I := iDet) (h := h) (l := []) (by decide) hn codes_ rfl rfl
    rw [above_nil, above_nil, if_neg (by decide), if_neg (by decide), if_neg (fun z => by cases z.1)] at hr
    refine answered hr rfl wf (by show (1 : Nat) ≤ 100; decide) (a := Kri8.say h.det) ?_ ?_
    · show _ = (absH h, _)
      rw [abs_some hn]; rfl
    · show [(h.det : Int)] = [(Mth.detM h.on : Int)]
      rw [det_eq wf]
theorem st_ends {h : House} (wf : Wf h) (j : Nat) : StepOk 6 iEnds h [j] := by
  by_cases hn : h.n = 0
  · exact unbegun wf (by decide) hn rfl
  · have hr := refuse_of (c := 6) (I := iEnds) (h := h) (l := [j]) (by decide) hn codes_q rfl rfl
    simp only [above_cons, above_nil, no_eq hn, two_eq] at hr
    have ha : Kri8.act (absH h) (Kri8Neutral.call (rawC 6 [j])) = (absH h, if decide (h.n ≤ j) = true then Kri8.say (-2) else if Kri4.sure h.det = false then Kri8.say (-33) else Kri8.say (h.ends j)) := by
      rw [abs_some hn]
      show Kri8.act (some h) (.ends ((j : Int).toNat)) = _
      rw [Int.toNat_natCast]; rfl
    by_cases h1 : h.n ≤ j
    · rw [if_pos (by simp; omega)] at hr
      rw [if_pos (by simpa using h1)] at ha
      exact refused wf hr (by decide) ha
    · rw [if_neg (by simp; omega), if_neg (by simp)] at hr
      rw [if_neg (by simpa using h1)] at ha
      rw [det_eq wf] at hr
      by_cases h2 : Kri4.sure h.det = false
      · rw [if_pos ⟨rfl, h2⟩] at hr
        rw [if_pos h2] at ha
        exact refused wf hr (by decide) ha
      · rw [if_neg (fun z => h2 z.2)] at hr
        rw [if_neg h2] at ha
        refine answered hr ⟨j, rfl, by omega⟩ wf (by show (1 : Nat) ≤ 100; decide) (a := Kri8.say (h.ends j)) ha ?_
        show [(h.endsBy h.push j : Int)] = [(changeM h.on h.push j : Int)]
        rw [change_eq wf rfl (by omega) (by simpa using h2)]
theorem told_list (l : List Nat) : Kri8Neutral.told (Kri8.list l) = (l.length : Int) :: l.map fun (x : Nat) => (x : Int) := rfl
theorem st_all {h : House} (wf : Wf h) : StepOk 7 iAll h [] := by
  by_cases hn : h.n = 0
  · exact unbegun wf (by decide) hn rfl
  · have hr := refuse_of (c := 7) (I := iAll) (h := h) (l := []) (by decide) hn codes_ rfl rfl
    rw [above_nil, above_nil, if_neg (by decide), if_neg (by decide), det_eq wf] at hr
    have ha : Kri8.act (absH h) (Kri8Neutral.call (rawC 7 [])) = (absH h, if Kri4.sure h.det = false then Kri8.say (-33) else Kri8.list (h.qs.map fun j => h.ends j)) := by
      rw [abs_some hn]; rfl
    by_cases h2 : Kri4.sure h.det = false
    · rw [if_pos ⟨rfl, h2⟩] at hr
      rw [if_pos h2] at ha
      exact refused wf hr (by decide) ha
    · rw [if_neg (fun z => h2 z.2)] at hr
      rw [if_neg h2] at ha
      have hn5 := wf.n5
      refine answered hr rfl wf (by show ((h.n : Int) :: _).length ≤ 100; simp; omega) ha ?_
      rw [told_list, List.length_map, List.map_map]
      show ((List.range h.n).length : Int) :: _ = (h.n : Int) :: _
      rw [List.length_range]
      congr 1
      refine List.map_congr_left fun j hj => ?_
      show ((h.endsBy h.push j : Nat) : Int) = _
      rw [change_eq wf rfl (List.mem_range.mp hj) (by simpa using h2)]
theorem st_if {h : House} (wf : Wf h) (i s j : Nat) : StepOk 8 iIf h [i, s, j] := by
  by_cases hn : h.n = 0
  · exact unbegun wf (by decide) hn rfl
  · have hr := refuse_of (c := 8) (I := iIf) (h := h) (l := [i, s, j]) (by decide) hn codes_qsq rfl rfl
    simp only [above_cons, above_nil, no_eq hn, two_eq] at hr
    have ha : Kri8.act (absH h) (Kri8Neutral.call (rawC 8 [i, s, j])) = (absH h, if (decide (h.n ≤ i) || decide (h.n ≤ j)) = true then Kri8.say (-2) else if 2 < s then Kri8.say (-22) else if Kri4.sure h.det = false then Kri8.say (-33) else Kri8.say (h.endsBy (h.alone i s) j)) := by
      rw [abs_some hn]
      show Kri8.act (some h) (.if_ ((i : Int).toNat) ((s : Int).toNat) ((j : Int).toNat)) = _
      rw [Int.toNat_natCast, Int.toNat_natCast, Int.toNat_natCast]; rfl
    by_cases h1 : h.n ≤ i ∨ h.n ≤ j
    · rw [if_pos (by simp; omega)] at hr
      rw [if_pos (by simp; omega)] at ha
      exact refused wf hr (by decide) ha
    · rw [if_neg (by simp; omega)] at hr
      rw [if_neg (by simp; omega)] at ha
      by_cases h2 : 2 < s
      · rw [if_pos (by simp; omega)] at hr
        rw [if_pos h2] at ha
        exact refused wf hr (by decide) ha
      · rw [if_neg (by simp; omega), det_eq wf] at hr
        rw [if_neg h2] at ha
        by_cases h3 : Kri4.sure h.det = false
        · rw [if_pos ⟨rfl, h3⟩] at hr
          rw [if_pos h3] at ha
          exact refused wf hr (by decide) ha
        · rw [if_neg (fun z => h3 z.2)] at hr
          rw [if_neg h3] at ha
          refine answered hr ⟨i, s, j, rfl, by omega, by omega, by omega⟩ wf (by show (1 : Nat) ≤ 100; decide) ha ?_
          show [(h.endsBy (h.alone i s) j : Int)] = [(changeM h.on (h.alone i s) j : Int)]
          rw [change_eq wf (alone_le (by omega)).1 (by omega) (by simpa using h3)]
theorem st_row {h : House} (wf : Wf h) (i : Nat) : StepOk 9 iRow h [i] := by
  by_cases hn : h.n = 0
  · exact unbegun wf (by decide) hn rfl
  · have hr := refuse_of (c := 9) (I := iRow) (h := h) (l := [i]) (by decide) hn codes_q rfl rfl
    simp only [above_cons, above_nil, no_eq hn, two_eq] at hr
    have ha : Kri8.act (absH h) (Kri8Neutral.call (rawC 9 [i])) = (absH h, if decide (h.n ≤ i) = true then Kri8.say (-2) else if Kri4.sure h.det = false then Kri8.say (-33) else Kri8.list (h.qs.map fun j => h.endsBy (h.alone i 2) j)) := by
      rw [abs_some hn]
      show Kri8.act (some h) (.row ((i : Int).toNat)) = _
      rw [Int.toNat_natCast]; rfl
    by_cases h1 : h.n ≤ i
    · rw [if_pos (by simp; omega)] at hr
      rw [if_pos (by simpa using h1)] at ha
      exact refused wf hr (by decide) ha
    · rw [if_neg (by simp; omega), if_neg (by simp), det_eq wf] at hr
      rw [if_neg (by simpa using h1)] at ha
      by_cases h2 : Kri4.sure h.det = false
      · rw [if_pos ⟨rfl, h2⟩] at hr
        rw [if_pos h2] at ha
        exact refused wf hr (by decide) ha
      · rw [if_neg (fun z => h2 z.2)] at hr
        rw [if_neg h2] at ha
        have hn5 := wf.n5
        refine answered hr ⟨i, rfl, by omega⟩ wf (by show ((h.n : Int) :: _).length ≤ 100; simp; omega) ha ?_
        rw [told_list, List.length_map, List.map_map]
        show ((List.range h.n).length : Int) :: _ = (h.n : Int) :: _
        rw [List.length_range]
        congr 1
        refine List.map_congr_left fun j hj => ?_
        show ((h.endsBy (h.alone i 2) j : Nat) : Int) = _
        rw [change_eq wf (alone_le (by decide)).1 (List.mem_range.mp hj) (by simpa using h2)]; rfl
theorem st_without {h : House} (wf : Wf h) (j i : Nat) : StepOk 10 iWithout h [j, i] := by
  by_cases hn : h.n = 0
  · exact unbegun wf (by decide) hn rfl
  · have hr := refuse_of (c := 10) (I := iWithout) (h := h) (l := [j, i]) (by decide) hn codes_qq rfl rfl
    simp only [above_cons, above_nil, no_eq hn, two_eq] at hr
    have ha : Kri8.act (absH h) (Kri8Neutral.call (rawC 10 [j, i])) = (absH h, if (decide (h.n ≤ j) || decide (h.n ≤ i)) = true then Kri8.say (-2) else Kri8.say (h.without i j).det) := by
      rw [abs_some hn]
      show Kri8.act (some h) (.without ((j : Int).toNat) ((i : Int).toNat)) = _
      rw [Int.toNat_natCast, Int.toNat_natCast]; rfl
    by_cases h1 : h.n ≤ j ∨ h.n ≤ i
    · rw [if_pos (by simp; omega)] at hr
      rw [if_pos (by simp; omega)] at ha
      exact refused wf hr (by decide) ha
    · rw [if_neg (by simp; omega), if_neg (by simp), if_neg (fun z => by cases z.1)] at hr
      rw [if_neg (by simp; omega)] at ha
      refine answered hr ⟨j, i, rfl, by omega, by omega⟩ wf (by show (1 : Nat) ≤ 100; decide) ha ?_
      show [((h.without i j).det : Int)] = [(Mth.detM (h.without i j).on : Int)]
      rw [det_eq (show Wf (h.without i j) from without_wf wf (by omega) (by omega) 1 (by decide))]
theorem ite0 {c : Prop} [Decidable c] {a n k : Nat} {X : Option (Nat × Nat)} (hX : X = some (n, k) → k = 0) (h : (if c then some (a, 0) else X) = some (n, k)) : k = 0 := by
  by_cases hc : c
  · rw [if_pos hc] at h
    injection h with h; injection h with _ h; exact h.symm
  · rw [if_neg hc] at h; exact hX h
theorem shape_zero {p : Int} {n k : Nat} (h : PyKri8.shape p = some (n, k)) : k = 0 := by
  unfold PyKri8.shape at h
  iterate 22 (refine ite0 ?_ h; clear h; intro h)
  cases h
def Keeps (infos : List Info) : Prop := ∀ (c n : Nat), PyKri8.shape (c : Int) = some (n, 0) → ∃ I, infos[c]? = some I ∧ I.letters.cps.size = n ∧ I.letters.cps.all (· < 128) = true ∧ (c = 0 → n = 1) ∧ (∀ l : List Nat, l.length = n → PyKri8.whole (rawC c l) = rawC c l) ∧ ∀ (h : House) (l : List Nat), Wf h → l.length = n → StepOk c I h l
theorem bridge {infos : List Info} (hk : Keeps infos) : ∀ (fu : Nat) (h : House) (ns : List Nat) (raw : List (List (List Int))), Wf h → PyFlat.calls PyKri8.shape fu (ns.map fun (x : Nat) => (x : Int)) = some raw →
    Valid infos fu h ns ∧ runM infos fu h ns = PyFlat.told (PyFlat.played Kri8Neutral.step (absH h) (raw.map PyKri8.whole))
  | fu, h, [], raw, wf, hd => by
    have e : raw = [] := by
      cases fu <;> exact (Option.some.inj hd).symm
    subst e
    refine ⟨by cases fu <;> trivial, by cases fu <;> rfl⟩
  | 0, h, c :: r, raw, wf, hd => by cases hd
  | fu + 1, h, c :: r, raw, wf, hd => by
    have hd : (match PyFlat.call PyKri8.shape ((c : Int) :: r.map fun (x : Nat) => (x : Int)) with | none => none | some (c', t) => match PyFlat.calls PyKri8.shape fu t with | none => none | some cs => some (c' :: cs)) = some raw := hd
    have hcall : PyFlat.call PyKri8.shape ((c : Int) :: r.map fun (x : Nat) => (x : Int)) = (match PyKri8.shape (c : Int) with | none => none | some (n, k) => if (r.map fun (x : Nat) => (x : Int)).length < n then none else match PyFlat.rows k ((r.map fun (x : Nat) => (x : Int)).drop n) with | none => none | some (xs, t) => some (((c : Int) :: (r.map fun (x : Nat) => (x : Int)).take n) :: xs, t)) := rfl
    cases hs : PyKri8.shape (c : Int) with
    | none => rw [hcall, hs] at hd; cases hd
    | some nk =>
      obtain ⟨n, k⟩ := nk
      have hk0 := shape_zero hs
      subst hk0
      obtain ⟨I, hI, hsz, hasc, hone, hwh, hstep⟩ := hk c n hs
      rw [hcall, hs] at hd
      by_cases hlt : (r.map fun (x : Nat) => (x : Int)).length < n
      · simp only [if_pos hlt] at hd; cases hd
      · simp only [if_neg hlt, PyFlat.rows] at hd
        rw [List.length_map] at hlt
        rw [← List.map_drop, ← List.map_take] at hd
        cases hrest : PyFlat.calls PyKri8.shape fu ((r.drop n).map fun (x : Nat) => (x : Int)) with
        | none => rw [hrest] at hd; cases hd
        | some cs =>
          rw [hrest] at hd
          have hd : (((c : Int) :: (r.take n).map fun (x : Nat) => (x : Int)) :: []) :: cs = raw := Option.some.inj hd
          subst hd
          have S := hstep h (r.take n) wf (by rw [List.length_take]; omega)
          obtain ⟨ih1, ih2⟩ := bridge hk fu (postM I c h (r.take n)) (r.drop n) cs S.wf hrest
          refine ⟨⟨I, hI, by omega, hasc, fun z => by rw [hsz]; exact hone z, by rw [hsz]; exact S.pre, by rw [hsz]; exact S.wf, by rw [hsz]; exact S.few, by rw [hsz]; exact ih1⟩, ?_⟩
          show (match infos[c]? with | none => [] | some I => ((ansM I c h (r.take I.letters.cps.size)).length : Int) :: ansM I c h (r.take I.letters.cps.size) ++ runM infos fu (postM I c h (r.take I.letters.cps.size)) (r.drop I.letters.cps.size)) = _
          rw [hI]
          show ((ansM I c h (r.take I.letters.cps.size)).length : Int) :: ansM I c h (r.take I.letters.cps.size) ++ runM infos fu (postM I c h (r.take I.letters.cps.size)) (r.drop I.letters.cps.size) = _
          have ew : PyKri8.whole (((c : Int) :: (r.take n).map fun (x : Nat) => (x : Int)) :: []) = rawC c (r.take n) := hwh _ (by rw [List.length_take]; omega)
          rw [hsz, ih2, List.map_cons, ew]
          show _ = PyFlat.told ((Kri8Neutral.step (absH h) (rawC c (r.take n))).2 :: PyFlat.played Kri8Neutral.step (Kri8Neutral.step (absH h) (rawC c (r.take n))).1 (cs.map PyKri8.whole))
          rw [S.step]
          unfold PyFlat.told
          rw [List.flatMap_cons]
end My


end
section
set_option Elab.async false
set_option linter.all false
set_option maxRecDepth 100000
set_option maxHeartbeats 4000000
namespace Srt
open PySem PyProof.Rows
open PySem.Sem (wp)
abbrev fk (kd : SortKind) (st : SortSt) : SortSt := SortSt.mk' kd (arrOf st) (pendingOf st) (gallopOf st) (failedOf st)
section
variable {M : Model} {Γ : Ctx} {s1 s2 : Shared} {k1 k2 : SortKind} {α β : Type}
abbrev no : Value → Pos → Shared → Prop := fun _ _ _ => False
def Nt (M : Model) (Γ : Ctx) (s1 s2 : Shared) (k1 k2 : SortKind) {α : Type} (m1 m2 : StateT SortSt Sem α) : Prop :=
  ∀ (st : SortSt) (Q : α × SortSt → Pos → Shared → Prop) (p1 p2 : Pos), kindOf st = k1 → wp M Γ (m2.run (fk k2 st)) Q no p2 s2 →
    wp M Γ (m1.run st) (fun r _ s => s = s1 ∧ kindOf r.2 = k1 ∧ ∃ p', Q (r.1, fk k2 r.2) p' s2) no p1 s1
theorem nt_pure (a : α) : Nt M Γ s1 s2 k1 k2 (pure a) (pure a) := by
  intro st Q p1 p2 hk h
  rw [StateT.run_pure, Sem.wp_pure'] at h
  rw [StateT.run_pure, Sem.wp_pure']
  exact ⟨rfl, hk, p2, h⟩
theorem nt_bind {m1 m2 : StateT SortSt Sem α} {f1 f2 : α → StateT SortSt Sem β} (h1 : Nt M Γ s1 s2 k1 k2 m1 m2) (h2 : ∀ a, Nt M Γ s1 s2 k1 k2 (f1 a) (f2 a)) : Nt M Γ s1 s2 k1 k2 (m1 >>= f1) (m2 >>= f2) := by
  intro st Q p1 p2 hk h
  rw [StateT.run_bind, Sem.wp_bind'] at h
  rw [StateT.run_bind, Sem.wp_bind']
  refine Sem.wp_mono _ _ _ (fun r p s hr => ?_) (fun _ _ _ e => e) p1 s1 (h1 st _ p1 p2 hk h)
  obtain ⟨rfl, hk', p', hr⟩ := hr
  exact h2 r.1 r.2 Q p p' hk' hr
theorem nt_get {f1 f2 : SortSt → StateT SortSt Sem β} (h : ∀ st, kindOf st = k1 → Nt M Γ s1 s2 k1 k2 (f1 st) (f2 (fk k2 st))) : Nt M Γ s1 s2 k1 k2 (get >>= f1) (get >>= f2) := by
  intro st Q p1 p2 hk hw
  rw [StateT.run_bind, StateT.run_get, Sem.wp_bind', Sem.wp_pure'] at hw
  rw [StateT.run_bind, StateT.run_get, Sem.wp_bind', Sem.wp_pure']
  exact h st hk st Q p1 p2 hk hw
theorem nt_set {x y : SortSt} (hx : kindOf x = k1) (hy : y = fk k2 x) : Nt M Γ s1 s2 k1 k2 (set x) (set y) := by
  intro st Q p1 p2 hk hw
  rw [StateT.run_set, Sem.wp_pure'] at hw
  rw [StateT.run_set, Sem.wp_pure']
  subst hy
  exact ⟨rfl, hx, p2, hw⟩
theorem nt_mod {f1 f2 : SortSt → SortSt} (h1 : ∀ st, kindOf (f1 st) = kindOf st) (h2 : ∀ st, f2 (fk k2 st) = fk k2 (f1 st)) : Nt M Γ s1 s2 k1 k2 (modify f1) (modify f2) := by
  intro st Q p1 p2 hk hw
  rw [StateT.run_modify, Sem.wp_pure', h2] at hw
  rw [StateT.run_modify, Sem.wp_pure']
  exact ⟨rfl, (h1 st).trans hk, p2, hw⟩
theorem nt_lift {m : Sem α} (h : ∀ (Q : α → Pos → Shared → Prop) (E : Value → Pos → Shared → Prop) (p1 p2 : Pos), wp M Γ m Q E p2 s2 → ∃ a p', Q a p' s2 ∧ ∀ (Q' : α → Pos → Shared → Prop) (E' : Value → Pos → Shared → Prop), (∀ p, Q' a p s1) → wp M Γ m Q' E' p1 s1) :
    Nt M Γ s1 s2 k1 k2 (liftM m : StateT SortSt Sem α) (liftM m) := by
  intro st Q p1 p2 hk hw
  have e : ∀ x, (liftM m : StateT SortSt Sem α).run x = m >>= fun a => pure (a, x) := fun x => rfl
  rw [e, Sem.wp_bind'] at hw
  rw [e, Sem.wp_bind']
  obtain ⟨a, p', hq, hw'⟩ := h _ _ p1 p2 hw
  rw [Sem.wp_pure'] at hq
  refine hw' _ _ fun p => ?_
  rw [Sem.wp_pure']
  exact ⟨rfl, hk, p', hq⟩
theorem nt_rule (t : String) : Nt M Γ s1 s2 k1 k2 (liftM (rule t) : StateT SortSt Sem Unit) (liftM (rule t)) := by
  refine nt_lift fun Q E p1 p2 h => ?_
  have e : ∀ (Q : Unit → Pos → Shared → Prop) E p s, wp M Γ (rule t) Q E p s = Q () p s := fun Q E p s => by unfold rule; rw [Sem.wp_rule, Sem.wp_pure]
  rw [e] at h
  exact ⟨(), p2, h, fun Q' E' hq => by rw [e]; exact hq _⟩
theorem nt_uns (t : String) : Nt M Γ s1 s2 k1 k2 (liftM (unsupported t : Sem α) : StateT SortSt Sem α) (liftM (unsupported t : Sem α)) := by
  refine nt_lift fun Q E p1 p2 h => ?_
  exact False.elim h
theorem nt_list {ι : Type} {f1 f2 : ι → β → StateT SortSt Sem (ForInStep β)} (h : ∀ x b, Nt M Γ s1 s2 k1 k2 (f1 x b) (f2 x b)) : ∀ (l : List ι) (b : β), Nt M Γ s1 s2 k1 k2 (forIn l b f1) (forIn l b f2)
  | [], b => by rw [List.forIn_nil, List.forIn_nil]; exact nt_pure b
  | x :: l, b => by
    rw [List.forIn_cons, List.forIn_cons]
    refine nt_bind (h x b) fun r => ?_
    cases r with
    | done b' => exact nt_pure b'
    | yield b' => exact nt_list h l b'
theorem nt_range {a c : Nat} {b : β} {f1 f2 : Nat → β → StateT SortSt Sem (ForInStep β)} (h : ∀ x b, Nt M Γ s1 s2 k1 k2 (f1 x b) (f2 x b)) : Nt M Γ s1 s2 k1 k2 (forIn [a:c] b f1) (forIn [a:c] b f2) := by
  rw [Std.Legacy.Range.forIn_eq_forIn_range', Std.Legacy.Range.forIn_eq_forIn_range']
  exact nt_list h _ b
def Cmp (M : Model) (Γ : Ctx) (s1 s2 : Shared) (k1 k2 : SortKind) : Prop := ∀ (x y : Value) (Q : Bool → Pos → Shared → Prop) (E : Value → Pos → Shared → Prop) (p1 p2 : Pos), wp M Γ (keyLt' k2 x y) Q E p2 s2 →
  ∃ v p', Q v p' s2 ∧ ∀ (Q' : Bool → Pos → Shared → Prop) (E' : Value → Pos → Shared → Prop), (∀ p, Q' v p s1) → wp M Γ (keyLt' k1 x y) Q' E' p1 s1
section
variable (C : Cmp M Γ s1 s2 k1 k2)
include C
theorem nt_lt (x y : Keyed) : Nt M Γ s1 s2 k1 k2 (lt' x y) (lt' x y) := by
  rw [lt'_eq]
  refine nt_get fun st hk => ?_
  have hk2 : kindOf (fk k2 st) = k2 := rfl
  rw [hk, hk2]
  intro st Q p1 p2 hk hw
  have e : ∀ (m : Sem Bool) x, (liftM m.attempt : StateT SortSt Sem (Except Value Bool)).run x = m.attempt >>= fun a => pure (a, x) := fun m x => rfl
  rw [StateT.run_bind, e, Sem.wp_bind', Sem.wp_bind', Sem.wp_attempt] at hw
  rw [StateT.run_bind, e, Sem.wp_bind', Sem.wp_bind', Sem.wp_attempt]
  obtain ⟨v, p', hq, hw'⟩ := C _ _ _ _ p1 p2 hw
  rw [Sem.wp_pure'] at hq
  refine hw' _ _ fun p => ?_
  rw [Sem.wp_pure']
  exact nt_pure (some v) st Q p p' hk hq
theorem nt_elem (arr : Array Keyed) (i : Nat) : Nt M Γ s1 s2 k1 k2 (elem' arr i) (elem' arr i) := by
  rw [elem'_eq]
  cases arr[i]? with
  | some p => exact nt_pure p
  | none => exact nt_uns _
end
def N1 (M : Model) (Γ : Ctx) (s1 s2 : Shared) (k1 k2 : SortKind) {α : Type} (m : StateT SortSt Sem α) : Prop := Nt M Γ s1 s2 k1 k2 m m
theorem n_pure {a : α} : N1 M Γ s1 s2 k1 k2 (pure a) := nt_pure a
theorem n_bind {m : StateT SortSt Sem α} {f : α → StateT SortSt Sem β} (h1 : N1 M Γ s1 s2 k1 k2 m) (h2 : ∀ a, N1 M Γ s1 s2 k1 k2 (f a)) : N1 M Γ s1 s2 k1 k2 (m >>= f) := nt_bind h1 h2
theorem n_ite {c : Prop} [Decidable c] {a b : StateT SortSt Sem α} (h1 : c → N1 M Γ s1 s2 k1 k2 a) (h2 : ¬ c → N1 M Γ s1 s2 k1 k2 b) : N1 M Γ s1 s2 k1 k2 (if c then a else b) := by
  by_cases h : c
  · rw [if_pos h]; exact h1 h
  · rw [if_neg h]; exact h2 h
theorem n_get {f : SortSt → StateT SortSt Sem β} (hf : ∀ st, f (fk k2 st) = f st) (h : ∀ st, N1 M Γ s1 s2 k1 k2 (f st)) : N1 M Γ s1 s2 k1 k2 (get >>= f) := nt_get fun st _ => by rw [hf]; exact h st
theorem n_mod {f : SortSt → SortSt} (h1 : ∀ st, kindOf (f st) = kindOf st) (h2 : ∀ st, f (fk k2 st) = fk k2 (f st)) : N1 M Γ s1 s2 k1 k2 (modify f) := nt_mod h1 h2
theorem n_rule (t : String) : N1 M Γ s1 s2 k1 k2 (liftM (rule t) : StateT SortSt Sem Unit) := nt_rule t
theorem n_uns (t : String) : N1 M Γ s1 s2 k1 k2 (liftM (unsupported t : Sem α) : StateT SortSt Sem α) := nt_uns t
theorem n_range {a c : Nat} {b : β} {f : Nat → β → StateT SortSt Sem (ForInStep β)} (h : ∀ x b, N1 M Γ s1 s2 k1 k2 (f x b)) : N1 M Γ s1 s2 k1 k2 (forIn [a:c] b f) := nt_range h
section
variable (C : Cmp M Γ s1 s2 k1 k2)
include C
theorem n_lt (x y : Keyed) : N1 M Γ s1 s2 k1 k2 (lt' x y) := nt_lt C x y
theorem n_elem (arr : Array Keyed) (i : Nat) : N1 M Γ s1 s2 k1 k2 (elem' arr i) := nt_elem C arr i
theorem n_ltAt (i j : Nat) : N1 M Γ s1 s2 k1 k2 (ltAt' i j) := by
  rw [ltAt'_eq]
  exact n_get (fun _ => rfl) fun st => n_bind (n_elem C _ _) fun _ => n_bind (n_elem C _ _) fun _ => n_lt C _ _
theorem n_rev (i j : Nat) : N1 M Γ s1 s2 k1 k2 (reverseSlice' i j) := by
  rw [reverseSlice'_eq]; exact n_mod (fun _ => rfl) fun _ => rfl
theorem n_move (i j : Nat) : N1 M Γ s1 s2 k1 k2 (moveDown' i j) := by
  rw [moveDown'_eq]; exact n_mod (fun _ => rfl) fun _ => rfl
theorem n_sg (g : Nat) : N1 M Γ s1 s2 k1 k2 (setMinGallop' g) := by
  rw [setMinGallop'_eq]; exact n_mod (fun _ => rfl) fun _ => rfl
end
end
end Srt


end
section
set_option Elab.async false
set_option linter.all false
set_option maxRecDepth 100000
set_option maxHeartbeats 400000
namespace Srt
open PySem PyProof.Rows
open PySem.Sem (wp)
section
variable {M : Model} {Γ : Ctx} {s1 s2 : Shared} {k1 k2 : SortKind} {α β : Type}
section
variable (C : Cmp M Γ s1 s2 k1 k2)
include C
theorem n_count (lo n : Nat) : N1 M Γ s1 s2 k1 k2 (countRun' lo n) := by
  rw [countRun'_eq]
  repeat' (first | exact n_pure | exact n_rule _ | exact n_ltAt C _ _ | exact n_rev C _ _ | refine n_range fun _ _ => ?_ | refine n_bind ?_ fun _ => ?_ | dsimp only | split)
end
end
end Srt


end
section
set_option Elab.async false
set_option linter.all false
set_option maxRecDepth 100000
set_option maxHeartbeats 400000
namespace Srt
open PySem PyProof.Rows
open PySem.Sem (wp)
section
variable {M : Model} {Γ : Ctx} {s1 s2 : Shared} {k1 k2 : SortKind} {α β : Type}
section
variable (C : Cmp M Γ s1 s2 k1 k2)
include C
theorem n_bin (lo n ok : Nat) : N1 M Γ s1 s2 k1 k2 (binarySort' lo n ok) := by
  rw [binarySort'_eq]
  repeat' (first | exact n_pure | exact n_ltAt C _ _ | exact n_move C _ _ | refine n_range fun _ _ => ?_ | refine n_bind ?_ fun _ => ?_ | dsimp only | split)
theorem n_beyond (l : Bool) (k : Keyed) (arr : Array Keyed) (b i : Nat) : N1 M Γ s1 s2 k1 k2 (beyond' l k arr b i) := by
  unfold beyond'
  repeat' (first | exact n_pure | exact n_lt C _ _ | exact n_elem C _ _ | refine n_bind ?_ fun _ => ?_ | dsimp only | split)
theorem n_gallop (l : Bool) (k : Keyed) (arr : Array Keyed) (b n h : Nat) : N1 M Γ s1 s2 k1 k2 (gallop' l k arr b n h) := by
  rw [gallop'_eq]
  repeat' (first | exact n_pure | exact n_beyond C _ _ _ _ _ | refine n_range fun _ _ => ?_ | refine n_bind ?_ fun _ => ?_ | dsimp only | split)
end
end
end Srt


end
section
set_option Elab.async false
set_option linter.all false
set_option maxRecDepth 100000
set_option maxHeartbeats 4000000
namespace Srt
open PySem PyProof.Rows
open PySem.Sem (wp)
section
variable {M : Model} {Γ : Ctx} {s1 s2 : Shared} {k1 k2 : SortKind} {α β : Type}
section
variable (C : Cmp M Γ s1 s2 k1 k2)
include C
theorem n_lo (a b : Array Keyed) : N1 M Γ s1 s2 k1 k2 (mergeLo' a b) := by
  rw [mergeLo'_eq]
  repeat' (first | with_reducible exact n_pure | (with_reducible refine n_ite (fun _ => ?_) fun _ => ?_) | (with_reducible refine n_range fun _ _ => ?_) | (with_reducible refine n_get (fun _ => rfl) fun _ => ?_) | (with_reducible refine n_bind ?_ fun _ => ?_) | with_reducible exact n_elem C _ _ | with_reducible exact n_lt C _ _ | with_reducible exact n_rule _ | with_reducible exact n_uns _ | with_reducible exact n_sg C _ | with_reducible exact n_gallop C _ _ _ _ _ _ | dsimp only | split)
end
end
end Srt


end
section
set_option Elab.async false
set_option linter.all false
set_option maxRecDepth 100000
set_option maxHeartbeats 4000000
namespace Srt
open PySem PyProof.Rows
open PySem.Sem (wp)
section
variable {M : Model} {Γ : Ctx} {s1 s2 : Shared} {k1 k2 : SortKind} {α β : Type}
section
variable (C : Cmp M Γ s1 s2 k1 k2)
include C
theorem n_hi (a b : Array Keyed) : N1 M Γ s1 s2 k1 k2 (mergeHi' a b) := by
  rw [mergeHi'_eq]
  repeat' (first | with_reducible exact n_pure | (with_reducible refine n_ite (fun _ => ?_) fun _ => ?_) | (with_reducible refine n_range fun _ _ => ?_) | (with_reducible refine n_get (fun _ => rfl) fun _ => ?_) | (with_reducible refine n_bind ?_ fun _ => ?_) | with_reducible exact n_elem C _ _ | with_reducible exact n_lt C _ _ | with_reducible exact n_rule _ | with_reducible exact n_uns _ | with_reducible exact n_sg C _ | with_reducible exact n_gallop C _ _ _ _ _ _ | dsimp only | split)
end
end
end Srt


end
section
set_option Elab.async false
set_option linter.all false
set_option maxRecDepth 100000
set_option maxHeartbeats 4000000
namespace Srt
open PySem PyProof.Rows
open PySem.Sem (wp)
section
variable {M : Model} {Γ : Ctx} {s1 s2 : Shared} {k1 k2 : SortKind} {α β : Type}
section
variable (C : Cmp M Γ s1 s2 k1 k2)
include C
theorem n_mergeAt (i : Nat) : N1 M Γ s1 s2 k1 k2 (mergeAt' i) := by
  rw [mergeAt'_eq]
  refine nt_get fun st hk => ?_
  dsimp only
  rcases (pendingOf st)[i]? with _ | ⟨sa, na, pw⟩
  · exact n_uns _
  rcases (pendingOf st)[i + 1]? with _ | ⟨sb, nb, pw2⟩
  · exact n_uns _
  refine nt_bind (nt_set hk rfl) fun _ => ?_
  show N1 M Γ s1 s2 k1 k2 _
  repeat' (first | with_reducible exact n_pure | (with_reducible refine n_ite (fun _ => ?_) fun _ => ?_) | (with_reducible refine n_get (fun _ => rfl) fun _ => ?_) | (with_reducible refine n_bind ?_ fun _ => ?_) | with_reducible exact n_elem C _ _ | with_reducible exact n_gallop C _ _ _ _ _ _ | with_reducible exact n_lo C _ _ | with_reducible exact n_hi C _ _ | (with_reducible refine n_mod (fun _ => rfl) fun _ => rfl) | dsimp only | split)
theorem n_sort : N1 M Γ s1 s2 k1 k2 sortRuns' := by
  rw [sortRuns'_eq]
  repeat' (first | with_reducible exact n_pure | (with_reducible refine n_ite (fun _ => ?_) fun _ => ?_) | (with_reducible refine n_range fun _ _ => ?_) | (with_reducible refine n_get (fun _ => rfl) fun _ => ?_) | (with_reducible refine n_bind ?_ fun _ => ?_) | with_reducible exact n_rule _ | with_reducible exact n_count C _ _ | with_reducible exact n_bin C _ _ _ | with_reducible exact n_mergeAt C _ | (with_reducible refine n_mod (fun _ => rfl) fun _ => rfl) | dsimp only | split)
end
end
end Srt


end
section
set_option Elab.async false
set_option linter.all false
set_option maxRecDepth 100000
set_option maxHeartbeats 4000000
namespace Srt
open PySem PyProof.Rows
open PySem.Sem (wp)
def hp2 (N : Nat) (cd : Addr → Option Nat) : Heap := ⟨Array.ofFn (n := N) fun i => match cd i.1 with
  | some m => seqObj "tuple" (Array.replicate m Value.none) 0
  | none => ⟨.none, none, .freed, #[]⟩, {}⟩
theorem hp2_of {N : Nat} {cd : Addr → Option Nat} {a : Addr} {m : Nat} (ha : a < N) (h : cd a = some m) : (hp2 N cd).get? a = some (seqObj "tuple" (Array.replicate m Value.none) 0) := by
  have e : (hp2 N cd).objs[a]? = some (seqObj "tuple" (Array.replicate m Value.none) 0) := by
    unfold hp2
    simp [ha, h]
  unfold Heap.get?
  rw [e]
theorem hp2_inv {N : Nat} {cd : Addr → Option Nat} {a : Addr} {o : Obj} (h : (hp2 N cd).get? a = some o) : ∃ m, cd a = some m ∧ o = seqObj "tuple" (Array.replicate m Value.none) 0 := by
  by_cases ha : a < N
  · cases hc : cd a with
    | some m =>
      rw [hp2_of ha hc] at h
      exact ⟨m, rfl, (Option.some.inj h).symm⟩
    | none =>
      have e : (hp2 N cd).objs[a]? = some ⟨.none, none, .freed, #[]⟩ := by
        unfold hp2
        simp [ha, hc]
      unfold Heap.get? at h
      rw [e] at h
      cases h
  · have e : (hp2 N cd).objs[a]? = none := by
      unfold hp2
      simp [ha]
    unfold Heap.get? at h
    rw [e] at h
    cases h
section
variable {M : Model} {Γ : Ctx} {s : Shared} {N : Nat} {cd : Addr → Option Nat}
theorem items_inv {x : Value} {Q : Array Value → Pos → Shared → Prop} {E : Value → Pos → Shared → Prop} {p : Pos} (hs : s.heap = hp2 N cd) (h : wp M Γ (Builtin.List.listItems x) Q E p s) : ∃ a m, x = .ref a ∧ cd a = some m ∧ Q (Array.replicate m Value.none) p s := by
  unfold Builtin.List.listItems seqItems? at h
  cases x with
  | ref a =>
    rw [Sem.wp_bind'] at h
    dsimp only at h
    rw [Sem.wp_bind'] at h
    obtain ⟨o, ho, h⟩ : ∃ o, s.heap.get? a = some o ∧ _ := h
    rw [hs] at ho
    obtain ⟨m, hm, rfl⟩ := hp2_inv ho
    exact ⟨a, m, rfl, hm, h⟩
  | _ =>
    exfalso
    first
      | (simp [notAStandIn, Sem.wp_bind'] at h; done)
      | (simp [notAStandIn, Sem.wp_bind'] at h
         split at h
         · exact h
         · exact h)
theorem items_of {a : Addr} {m : Nat} {Q : Array Value → Pos → Shared → Prop} {E : Value → Pos → Shared → Prop} {p : Pos} (hs : s.heap = hp2 N cd) (ha : a < N) (hm : cd a = some m) (h : Q (Array.replicate m Value.none) p s) : wp M Γ (Builtin.List.listItems (.ref a)) Q E p s := by
  unfold Builtin.List.listItems seqItems?
  rw [Sem.wp_bind']
  dsimp only
  rw [Sem.wp_bind']
  refine ⟨_, by rw [hs]; exact hp2_of ha hm, ?_⟩
  exact h
theorem eq_none {Q : Bool → Pos → Shared → Prop} {E : Value → Pos → Shared → Prop} {p : Pos} : wp M Γ (eqBool .none .none) Q E p s = Q true p s := by
  unfold eqBool
  rw [Sem.wp_holding]
  rfl
theorem loop_none {β : Type} {body : (Value × Value) × Nat → Option Bool × Unit → Sem (ForInStep (Option Bool × Unit))} {E : Value → Pos → Shared → Prop} {p : Pos}
    (hb : ∀ i (R : ForInStep (Option Bool × Unit) → Pos → Shared → Prop), wp M Γ (body ((.none, .none), i) (none, ())) R E p s = R (.yield (none, ())) p s) (R : Option Bool × Unit → Pos → Shared → Prop) :
    ∀ (m n k : Nat), wp M Γ (forIn (((List.replicate m Value.none).zip (List.replicate n Value.none)).zipIdx k) (none, ()) body) R E p s = R (none, ()) p s
  | 0, n, k => by
    rw [List.replicate_zero, List.zip_nil_left, List.zipIdx_nil, List.forIn_nil, Sem.wp_pure']
  | m + 1, 0, k => by
    rw [List.replicate_zero, List.zip_nil_right, List.zipIdx_nil, List.forIn_nil, Sem.wp_pure']
  | m + 1, n + 1, k => by
    rw [List.replicate_succ, List.replicate_succ, List.zip_cons_cons, List.zipIdx_cons, List.forIn_cons, Sem.wp_bind', hb]
    exact loop_none (β := β) hb R m n (k + 1)
theorem lt_rest {b : Bool} {m n : Nat} {Q : Bool → Pos → Shared → Prop} {E : Value → Pos → Shared → Prop} {p : Pos} : wp M Γ (do
    for ((p, q), i) in ((Array.replicate m Value.none).toList.zip (Array.replicate n Value.none).toList).zipIdx do
      if !(← eqBool p q) then return ← oneLt' (b && i == 0) p q
    return decide ((Array.replicate m Value.none).size < (Array.replicate n Value.none).size)) Q E p s = Q (decide (m < n)) p s := by
  rw [Sem.wp_bind', Array.toList_replicate, Array.toList_replicate]
  rw [loop_none (β := Unit)]
  · dsimp only
    rw [Sem.wp_pure', Array.size_replicate, Array.size_replicate]
  · intro i R
    rw [Sem.wp_bind', eq_none]
    rfl
theorem lt_inv {b : Bool} {x y : Value} {Q : Bool → Pos → Shared → Prop} {E : Value → Pos → Shared → Prop} {p : Pos} (hs : s.heap = hp2 N cd) (h : wp M Γ (keyLt' (tuples' b) x y) Q E p s) :
    ∃ a c m n, x = .ref a ∧ y = .ref c ∧ cd a = some m ∧ cd c = some n ∧ Q (decide (m < n)) p s := by
  rw [kat_lt_eq, Sem.wp_bind'] at h
  obtain ⟨a, m, rfl, hm, h⟩ := items_inv hs h
  rw [Sem.wp_bind'] at h
  obtain ⟨c, n, rfl, hn, h⟩ := items_inv hs h
  rw [lt_rest] at h
  exact ⟨a, c, m, n, rfl, rfl, hm, hn, h⟩
theorem lt_of {b : Bool} {a c : Addr} {m n : Nat} {Q : Bool → Pos → Shared → Prop} {E : Value → Pos → Shared → Prop} {p : Pos} (hs : s.heap = hp2 N cd) (ha : a < N) (hc : c < N) (hm : cd a = some m) (hn : cd c = some n) (h : Q (decide (m < n)) p s) :
    wp M Γ (keyLt' (tuples' b) (.ref a) (.ref c)) Q E p s := by
  rw [kat_lt_eq, Sem.wp_bind']
  refine items_of hs ha hm ?_
  rw [Sem.wp_bind']
  refine items_of hs hc hn ?_
  rw [lt_rest]
  exact h
end
@[reducible] def cdKind (N : Nat) (cd : Addr → Option Nat) : KeyKind where
  α := Nat
  blt a b := decide (a < b)
  irrefl a := by simp
  trans a b c h1 h2 := by simp only [decide_eq_true_eq] at *; omega
  negTrans a b c h := by simp only [decide_eq_true_eq] at *; omega
  total a b h1 h2 := by simp only [decide_eq_false_iff_not] at *; omega
  keyOf v := match v with
    | .ref a => if a < N then cd a else none
    | _ => none
  dflt := 0
theorem key_inv {N : Nat} {cd : Addr → Option Nat} {v : Value} {m : Nat} (h : (cdKind N cd).keyOf v = some m) : ∃ a, v = .ref a ∧ a < N ∧ cd a = some m := by
  cases v with
  | ref a =>
    have h : (if a < N then cd a else none) = some m := h
    by_cases ha : a < N
    · rw [if_pos ha] at h; exact ⟨a, rfl, ha, h⟩
    · rw [if_neg ha] at h; cases h
  | _ => cases h
theorem key_of {N : Nat} {cd : Addr → Option Nat} {a : Addr} {m : Nat} (ha : a < N) (h : cd a = some m) : (cdKind N cd).keyOf (.ref a) = some m := by
  show (if a < N then cd a else none) = some m
  rw [if_pos ha]; exact h
theorem runs {prog : Program} {w : World} {A : Around} {E : Value → Shared → Prop} {s : Shared} {N : Nat} {cd : Addr → Option Nat} {a₀ : Array Keyed}
    (hc : ∀ (a c : Addr) (m n : Nat) (Q : Bool → Shared → Prop) (E : Value → Shared → Prop), cd a = some m → cd c = some n → Q (decide (m < n)) s → wpAny (model prog w) A (keyLt' oneType' (.ref a) (.ref c)) Q E s)
    (h0 : KeysOf (cdKind N cd) a₀) (h2 : 2 ≤ a₀.size) {Q : Unit × SortSt → Shared → Prop} (hq : ∀ st', (arrOf st').Perm a₀ → failedOf st' = none → SortedToK (cdKind N cd) (arrOf st') a₀.size → Q ((), st') s) :
    wpAny (model prog w) A (sortRuns'.run (SortSt.mk' oneType' a₀ #[] 7 none)) Q E s := by
  intro Γ p hΓ
  have L : G.LtAt prog w { s with heap := hp2 N cd } (cdKind N cd) (tuples' true) := by
    intro A E x y a b Q hx hy h Γ p hΓ
    obtain ⟨x, rfl, hx1, hx2⟩ := key_inv hx
    obtain ⟨y, rfl, hy1, hy2⟩ := key_inv hy
    exact lt_of rfl hx1 hy1 hx2 hy2 h
  have W := G.wpS_sortRunsSt (A := A) (E := fun _ _ => False) (kd := tuples' true) (a₀ := a₀) (st := SortSt.mk' (tuples' true) a₀ #[] 7 none) (Q := fun _ st' => (arrOf st').Perm a₀ ∧ failedOf st' = none ∧ SortedToK (cdKind N cd) (arrOf st') a₀.size)
    L h0 ⟨Array.Perm.refl _, rfl, rfl⟩ rfl (Stable.refl _) h2 (fun st' h1 h2 h3 _ => ⟨h1, h2, h3⟩) Γ p hΓ
  have C : Cmp (model prog w) Γ s { s with heap := hp2 N cd } oneType' (tuples' true) := by
    intro x y Q E p1 p2 h
    obtain ⟨a, c, m, n, rfl, rfl, hm, hn, h⟩ := lt_inv rfl h
    refine ⟨_, p2, h, fun Q' E' hq' => ?_⟩
    have := hc a c m n (fun v s' => s' = s ∧ v = decide (m < n)) (fun _ _ => False) hm hn ⟨rfl, rfl⟩ Γ p1 hΓ
    refine Sem.wp_mono _ _ _ (fun v p' s' hv => ?_) (fun _ _ _ e => e.elim) p1 s this
    obtain ⟨rfl, rfl⟩ := hv
    exact hq' p'
  have T := n_sort C (SortSt.mk' oneType' a₀ #[] 7 none) _ p p rfl W
  refine Sem.wp_mono _ _ _ (fun r p' s' hr => ?_) (fun _ _ _ e => e.elim) p s T
  obtain ⟨rfl, _, p'', _, h1, h2, h3⟩ := hr
  exact hq r.2 h1 h2 h3
end Srt


end
section
set_option Elab.async false
set_option linter.all false
set_option maxRecDepth 100000
set_option maxHeartbeats 4000000
namespace Srt
open PySem PyProof.Rows
open PySem.Sem (wp)
open AutoSeq1 (wpAny_loadPart')
open MeetsSeq MeetsSeq2 MeetsSeq3
def lexI : List Int → List Int → Bool
  | [], [] => false
  | [], _ :: _ => true
  | _ :: _, [] => false
  | x :: r, y :: t => if x = y then lexI r t else decide (x < y)
def Its (items : Array Value) (xs : List Int) : Prop := items.size = xs.length ∧ ∀ (j : Nat) (x : Int), xs[j]? = some x → ∃ t, items[j]? = some (.int x t)
theorem lt_loop (l b : Addr) (items items2 : Array Value) (n n2 : Nat) (dd dd2 : Option Addr) (sl sl2 : Array (Option Value)) (xs ys : List Int) (hx : Its items xs) (hy : Its items2 ys) (k : Nat) :
    ∀ i : Nat, items.size - i = k → i ≤ items.size → i ≤ items2.size → Meets (Builtin.«list.__eq__.loop» ⟨[.ref l, .ref b, rawInt i, rawInt 0], []⟩)
      (fun A R s => s.heap.get? l = some { cls := .type "list", dict := dd, data := .seq items n, slots := sl } ∧ s.heap.get? b = some { cls := .type "list", dict := dd2, data := .seq items2 n2, slots := sl2 } ∧
        R (.ok (.ret (.bool (lexI (xs.drop i) (ys.drop i))))) s) := by
  have stop : ∀ i : Nat, i ≤ items.size → i ≤ items2.size → (i = items.size ∨ i = items2.size) → lexI (xs.drop i) (ys.drop i) = decide (items.size < items2.size) := by
    intro i h1 h2 h3
    have e1 := hx.1
    have e2 := hy.1
    rcases h3 with h3 | h3
    · rw [show xs.drop i = [] by simp; omega]
      by_cases h4 : i = items2.size
      · rw [show ys.drop i = [] by simp; omega]
        exact (decide_eq_false (by omega)).symm
      · rw [List.drop_eq_getElem_cons (l := ys) (by omega)]
        exact (decide_eq_true (by omega)).symm
    · rw [show ys.drop i = [] by simp; omega]
      by_cases h4 : i = items.size
      · rw [show xs.drop i = [] by simp; omega]
        exact (decide_eq_false (by omega)).symm
      · rw [List.drop_eq_getElem_cons (l := xs) (by omega)]
        exact (decide_eq_false (by omega)).symm
  induction k with
  | zero =>
    intro i hk h1 h2 prog w A R s h
    obtain ⟨hp, g, d, tk, os⟩ := s; obtain ⟨hl, hb, h⟩ := h
    rw [stop i h1 h2 (.inl (by omega))] at h
    wp_walk using wpAny_loadPart' hl, wpAny_loadPart' hb
    have hi1 : items[((i : Nat) : Int).toNat]? = none := by simp; omega
    rw [hi1]
    wp_walk using wpAny_loadPart' hl, wpAny_loadPart' hb
    exact h
  | succ k ih =>
    intro i hk h1 h2 prog w A R s h
    obtain ⟨hp, g, d, tk, os⟩ := s; obtain ⟨hl, hb, h⟩ := h
    wp_walk using wpAny_loadPart' hl, wpAny_loadPart' hb
    have hlt : i < items.size := by omega
    by_cases hlt2 : i < items2.size
    · have e1 := hx.1
      have e2 := hy.1
      obtain ⟨t, hi1⟩ := hx.2 i xs[i] (List.getElem?_eq_getElem (by omega))
      obtain ⟨u, hi2⟩ := hy.2 i ys[i] (List.getElem?_eq_getElem (by omega))
      have hj1 : items[((i : Nat) : Int).toNat]? = some (.int xs[i] t) := by rw [Int.toNat_natCast]; exact hi1
      have hj2 : items2[((i : Nat) : Int).toNat]? = some (.int ys[i] u) := by rw [Int.toNat_natCast]; exact hi2
      have hc : ((i : Int) + 1) = ((i + 1 : Nat) : Int) := by push_cast; rfl
      have hd : lexI (xs.drop i) (ys.drop i) = if xs[i] = ys[i] then lexI (xs.drop (i + 1)) (ys.drop (i + 1)) else decide (xs[i] < ys[i]) := by
        rw [List.drop_eq_getElem_cons (l := xs) (by omega), List.drop_eq_getElem_cons (l := ys) (by omega)]; rfl
      rw [hd] at h
      rw [hj1, hj2]
      refine wpAny_bind (wpAny_eqBool_int ?_)
      by_cases he : xs[i] = ys[i]
      · rw [if_pos he] at h
        rw [show (xs[i] == ys[i]) = true by simpa using he]
        wp_walk
        rw [hc]
        exact ⟨plainId_quiet plain_eq_loop _, codeAny_builtin entry_eq_loop (by
          rw [Around.under_plainId plain_eq_loop _]
          exact ih (i + 1) (by omega) (by omega) (by omega) prog w A R _ ⟨hl, hb, h⟩)⟩
      · rw [if_neg he] at h
        rw [show (xs[i] == ys[i]) = false by simpa using he]
        wp_walk using wpAny_loadPart' hl, wpAny_loadPart' hb
        rw [hj1, hj2]
        refine wpAny_bind (P.lt_int ?_)
        wp_walk
        exact h
    · rw [stop i h1 h2 (.inr (by omega))] at h
      have hi2 : items2[((i : Nat) : Int).toNat]? = none := by simp; omega
      have hi1 : items[((i : Nat) : Int).toNat]? = some items[i] := by simp [hlt]
      rw [hi1, hi2]
      wp_walk using wpAny_loadPart' hl, wpAny_loadPart' hb
      exact h
theorem list_lt (l b : Addr) (items items2 : Array Value) (n n2 : Nat) (dd dd2 : Option Addr) (sl sl2 : Array (Option Value)) (xs ys : List Int) (hx : Its items xs) (hy : Its items2 ys) : Meets (Builtin.«list.__lt__» ⟨[.ref l, .ref b], []⟩)
      (fun A R s => s.heap.get? l = some { cls := .type "list", dict := dd, data := .seq items n, slots := sl } ∧ s.heap.get? b = some { cls := .type "list", dict := dd2, data := .seq items2 n2, slots := sl2 } ∧ R (.ok (.ret (.bool (lexI xs ys)))) s) := by
  intro prog w A R s h
  obtain ⟨hp, g, d, tk, os⟩ := s; obtain ⟨hl, hb, h⟩ := h
  have f3 := AutoSeq1.sub_list_list
  wp_walk using wpAny_loadPart' hl, wpAny_loadPart' hb
  exact ⟨plainId_quiet plain_eq_loop _, codeAny_builtin entry_eq_loop (by
    rw [Around.under_plainId plain_eq_loop _]
    exact lt_loop l b items items2 n n2 dd dd2 sl sl2 xs ys hx hy _ 0 rfl (Nat.zero_le _) (Nat.zero_le _) prog w A R _ ⟨hl, hb, h⟩)⟩
section
variable {prog : Program} {w : World} {A : Around} {E : Value → Shared → Prop} {s : Shared}
theorem key_lt {l b : Addr} {items items2 : Array Value} {n n2 : Nat} {dd dd2 : Option Addr} {sl sl2 : Array (Option Value)} {xs ys : List Int} {Q : Bool → Shared → Prop} (hu : A.units < cLine) (hx : Its items xs) (hy : Its items2 ys)
    (hl : s.heap.get? l = some { cls := .type "list", dict := dd, data := .seq items n, slots := sl }) (hb : s.heap.get? b = some { cls := .type "list", dict := dd2, data := .seq items2 n2, slots := sl2 }) (h : Q (lexI xs ys) s) :
    wpAny (model prog w) A (keyLt' oneType' (.ref l) (.ref b)) Q E s := by
  rw [keyLt'_oneType, oneLt'_eq, if_pos rfl]
  refine wpAny_bind (wpAny_cRoomFor hu ?_)
  have hT : s.TypeIs (.ref l) "list" := ⟨_, hl, rfl⟩
  refine wpAny_bind (wpAny_callSpecialIfBound?_slot hT F.slot_list_lt (call_meets F.slot_list_lt hT F.entry_list_lt (F.args_list_lt_2 _ _) (list_lt l b items items2 n n2 dd dd2 sl sl2 xs ys hx hy) ⟨hl, hb, ?_⟩))
  exact wpAny_truthy_bool h
end
end Srt


end
section
set_option Elab.async false
set_option linter.all false
set_option maxRecDepth 100000
set_option maxHeartbeats 1000000
namespace Srt
open PySem PyProof.Rows PySem.W
def cdl : Nat → List Nat → Nat
  | 0, _ => 0
  | _ + 1, [] => 0
  | k + 1, x :: r => (x + 1) * 16 ^ k + cdl k r
theorem cdl_lt : ∀ (k : Nat) (l : List Nat), (∀ x ∈ l, x < 15) → cdl k l < 16 ^ k
  | 0, _, _ => Nat.one_pos
  | k + 1, [], _ => Nat.pow_pos (by decide)
  | k + 1, x :: r, h => by
    have h1 := cdl_lt k r fun y hy => h y (by simp [hy])
    have h2 := h x (by simp)
    show (x + 1) * 16 ^ k + cdl k r < 16 ^ (k + 1)
    rw [Nat.pow_succ, Nat.mul_comm (16 ^ k) 16]
    calc (x + 1) * 16 ^ k + cdl k r < (x + 1) * 16 ^ k + 16 ^ k := by omega
      _ = (x + 2) * 16 ^ k := by rw [show x + 2 = (x + 1) + 1 by omega, Nat.succ_mul (x + 1)]
      _ ≤ 16 * 16 ^ k := Nat.mul_le_mul_right _ (by omega)
def toI (l : List Nat) : List Int := l.map fun (x : Nat) => (x : Int)
theorem lex_cdl : ∀ (k : Nat) (l m : List Nat), l.length ≤ k → m.length ≤ k → (∀ x ∈ l, x < 15) → (∀ x ∈ m, x < 15) → lexI (toI l) (toI m) = decide (cdl k l < cdl k m)
  | k, [], [], _, _, _, _ => by
    rw [show lexI (toI []) (toI []) = false from rfl]; exact (decide_eq_false (Nat.lt_irrefl _)).symm
  | 0, _ :: _, _, h, _, _, _ => absurd h (by simp)
  | 0, _, _ :: _, _, h, _, _ => absurd h (by simp)
  | k + 1, [], y :: t, _, _, _, _ => by
    refine (decide_eq_true ?_).symm
    show 0 < (y + 1) * 16 ^ k + cdl k t
    have : 0 < (y + 1) * 16 ^ k := Nat.mul_pos (by omega) (Nat.pow_pos (by decide))
    omega
  | k + 1, x :: r, [], _, _, _, _ => (decide_eq_false (Nat.not_lt_zero _)).symm
  | k + 1, x :: r, y :: t, h1, h2, h3, h4 => by
    have q1 : ∀ z ∈ r, z < 15 := fun z hz => h3 z (by simp [hz])
    have q2 : ∀ z ∈ t, z < 15 := fun z hz => h4 z (by simp [hz])
    have ih := lex_cdl k r t (by simpa using h1) (by simpa using h2) q1 q2
    have b1 := cdl_lt k r q1
    have b2 := cdl_lt k t q2
    show (if (x : Int) = (y : Int) then lexI (toI r) (toI t) else decide ((x : Int) < (y : Int))) = decide ((x + 1) * 16 ^ k + cdl k r < (y + 1) * 16 ^ k + cdl k t)
    by_cases e : x = y
    · subst e
      rw [if_pos rfl, ih]
      by_cases h : cdl k r < cdl k t
      · rw [decide_eq_true h, decide_eq_true (by omega)]
      · rw [decide_eq_false h, decide_eq_false (by omega)]
    · rw [if_neg (by omega)]
      by_cases h : x < y
      · rw [decide_eq_true (by omega)]
        refine (decide_eq_true ?_).symm
        have : (x + 1) * 16 ^ k + 16 ^ k ≤ (y + 1) * 16 ^ k := by
          rw [← Nat.succ_mul]; exact Nat.mul_le_mul_right _ (by omega)
        omega
      · rw [decide_eq_false (by omega)]
        refine (decide_eq_false ?_).symm
        have : (y + 1) * 16 ^ k + 16 ^ k ≤ (x + 1) * 16 ^ k := by
          rw [← Nat.succ_mul]; exact Nat.mul_le_mul_right _ (by omega)
        omega
end Srt


end
section
set_option Elab.async false
set_option linter.all false
set_option maxRecDepth 100000
set_option maxHeartbeats 1000000
namespace Srt
open PySem PyProof.Rows PySem.W
section
variable {prog : Program} {w : World} {A : Around} {E : Value → Shared → Prop} {s : Shared}
def LAt (h : Heap) (a : Addr) (l : List Nat) : Prop := ∃ (dd : Option Addr) (items : Array Value) (n : Nat) (sl : Array (Option Value)), h.get? a = some { cls := .type "list", dict := dd, data := .seq items n, slots := sl } ∧ Its items (toI l)
theorem LAt.keep {h h' : Heap} {a : Addr} {l : List Nat} (x : LAt h a l) (k : ∀ b o, h.get? b = some o → h'.get? b = some o) : LAt h' a l := let ⟨dd, items, n, sl, h1, h2⟩ := x; ⟨dd, items, n, sl, k _ _ h1, h2⟩
theorem LAt.lt {h : Heap} {a : Addr} {l : List Nat} (x : LAt h a l) : a < h.objs.size := let ⟨_, _, _, _, h1, _⟩ := x; Heap.lt_size h1
def cdOf (T : List (Addr × List Nat)) (a : Addr) : Option Nat := (T.lookup a).map (cdl 5)
theorem look_mem {α : Type} [DecidableEq α] {β : Type} : ∀ {T : List (α × β)} {a : α} {l : β}, T.lookup a = some l → (a, l) ∈ T
  | [], _, _, h => by cases h
  | (b, m) :: T, a, l, h => by
    rw [List.lookup_cons] at h
    by_cases e : a = b
    · subst e
      rw [show (a == a) = true by simp] at h
      cases h; exact List.mem_cons_self ..
    · rw [show (a == b) = false by simpa using e] at h
      exact List.mem_cons_of_mem _ (look_mem h)
theorem look_of {α : Type} [DecidableEq α] {β : Type} : ∀ {T : List (α × β)} {a : α} {l : β}, (a, l) ∈ T → ∃ m, T.lookup a = some m
  | [], _, _, h => by cases h
  | (b, m) :: T, a, l, h => by
    rw [List.lookup_cons]
    by_cases e : a = b
    · subst e; exact ⟨m, by simp⟩
    · rw [show (a == b) = false by simpa using e]
      rcases List.mem_cons.mp h with q | q
      · cases q; exact absurd rfl e
      · exact look_of q
structure Told (h : Heap) (T : List (Addr × List Nat)) : Prop where
  at_ : ∀ p ∈ T, LAt h p.1 p.2
  few : ∀ p ∈ T, p.2.length ≤ 5 ∧ ∀ x ∈ p.2, x < 15
theorem cd_inv {T : List (Addr × List Nat)} {h : Heap} (t : Told h T) {a : Addr} {m : Nat} (e : cdOf T a = some m) : ∃ l, LAt h a l ∧ m = cdl 5 l ∧ l.length ≤ 5 ∧ ∀ x ∈ l, x < 15 := by
  unfold cdOf at e
  cases q : T.lookup a with
  | none => rw [q] at e; cases e
  | some l =>
    rw [q] at e
    cases e
    have hm := look_mem q
    exact ⟨l, t.at_ _ hm, rfl, t.few _ hm⟩
theorem cmp_of {T : List (Addr × List Nat)} (t : Told s.heap T) (hu : A.units < cLine) (a c : Addr) (m n : Nat) (Q : Bool → Shared → Prop) (E : Value → Shared → Prop) (ha : cdOf T a = some m) (hc : cdOf T c = some n) (h : Q (decide (m < n)) s) :
    wpAny (model prog w) A (keyLt' oneType' (.ref a) (.ref c)) Q E s := by
  obtain ⟨l, ⟨_, _, _, _, h1, h2⟩, rfl, h3, h4⟩ := cd_inv t ha
  obtain ⟨l', ⟨_, _, _, _, q1, q2⟩, rfl, q3, q4⟩ := cd_inv t hc
  refine key_lt hu h2 q2 h1 q1 ?_
  rw [lex_cdl 5 l l' h3 q3 h4 q4]
  exact h
theorem sort_at {T : List (Addr × List Nat)} {a : Addr} {as : List Addr} {n : Nat} {P : Fin → Shared → Prop} (hu : A.units < cLine) (ho : s.heap.get? a = some (seqObj "list" (as.map Value.ref).toArray n)) (t : Told s.heap T) (hT : ∀ b ∈ as, ∃ l, (b, l) ∈ T) (hna : ∀ p ∈ T, p.1 ≠ a)
    (hL : as.length ≤ 100000) (h : ∀ bs : List Addr, bs.Perm as → bs.Pairwise (fun x y => (cdOf T x).getD 0 ≤ (cdOf T y).getD 0) → P (.done (.ret .none)) { s with heap := sortedHeap s.heap a (as.map Value.ref) (bs.map Value.ref).toArray }) :
    wpAny (model prog w) A (Builtin.«list.sort» ⟨[.ref a], []⟩) P E s := by
  have hz : ∀ k, k ≤ 100000 → k ≤ sizeLine := fun k hk => by rw [sizeLine_eq]; omega
  have ha : a < s.heap.objs.size := Heap.lt_size ho
  obtain ⟨e1, ho1⟩ : ∃ e, (s.heap.update a (Obj.mapSeq fun _ => #[])).get? a = some (seqObj "list" #[] e) := ⟨_, get?_update_seq ho (fun _ => #[])⟩
  rw [list_sort_plain]
  have hlz : (as.map Value.ref).toArray.size ≤ sizeLine := hz _ (by simp; omega)
  have hlz2 : (as.map Value.ref).toArray.toList.length ≤ sizeLine := hz _ (by simp; omega)
  refine wpAny_bind (listItems_at ho rfl (wpAny_bind (listUpdate_at ho rfl ?_ hlz (Nat.zero_le _))))
  refine wpAny_bind (seqEpoch_at ho1 rfl (wpAny_bind (wpAny_newTuple ?_ hlz2)))
  refine wpAny_bind (wpAny_newList (wpAny_holding ?_) (Nat.zero_le _))
  generalize hg : ((s.heap.update a (Obj.mapSeq fun _ => #[])).push (seqObj "tuple" (as.map Value.ref).toArray 0)).push (seqObj "list" #[] 0) = g
  have keep : ∀ b o, b ≠ a → s.heap.get? b = some o → g.get? b = some o := fun b o hb e => by
    have hlt : b < s.heap.objs.size := Heap.lt_size e
    rw [← hg, Heap.get?_push_ne _ _ _ (by rw [size_push', Heap.size_update]; exact Nat.ne_of_lt (Nat.lt_succ_of_lt hlt)), Heap.get?_push_ne _ _ _ (by rw [Heap.size_update]; exact Nat.ne_of_lt hlt), Heap.get?_update_ne _ _ _ _ hb]
    exact e
  have ho6 : g.get? a = some (seqObj "list" #[] e1) := by
    rw [← hg, Heap.get?_push_ne _ _ _ (by rw [size_push', Heap.size_update]; exact Nat.ne_of_lt (Nat.lt_succ_of_lt ha)), Heap.get?_push_ne _ _ _ (by rw [Heap.size_update]; exact Nat.ne_of_lt ha)]
    exact ho1
  have t6 : Told g T := ⟨fun p hp => let ⟨dd, items, n, sl, h1, h2⟩ := t.at_ p hp; ⟨dd, items, n, sl, keep _ _ (hna p hp) h1, h2⟩, t.few⟩
  have hsz : (as.map Value.ref).toArray.size = as.length := by simp
  have fin : ∀ st' : SortSt, (arrOf st').Perm (pairsOf (as.map Value.ref)) → SortedToK (cdKind s.heap.objs.size (cdOf T)) (arrOf st') (pairsOf (as.map Value.ref)).size → ∃ bs : List Addr, bs.Perm as ∧ bs.Pairwise (fun x y => (cdOf T x).getD 0 ≤ (cdOf T y).getD 0) ∧ (arrOf st').map (·.2) = (bs.map Value.ref).toArray := by
    intro st' hp hs
    have hl := Array.perm_iff_toList_perm.mp hp
    rw [pairsOf_toList] at hl
    have hm : ∀ p ∈ (arrOf st').toList, ∃ b ∈ as, p = (Value.ref b, Value.ref b) := fun p hp' => by
      obtain ⟨e, q⟩ := mem_zip_self (hl.mem_iff.mp hp')
      obtain ⟨b, hb, e2⟩ := List.mem_map.mp q
      exact ⟨b, hb, Prod.ext e2.symm (e.symm.trans e2.symm)⟩
    let un : Keyed → Addr := fun p => match p.1 with | .ref b => b | _ => 0
    have e1 : ∀ p ∈ (arrOf st').toList, p = (Value.ref (un p), Value.ref (un p)) := fun p hp' => by
      obtain ⟨b, _, rfl⟩ := hm p hp'; rfl
    refine ⟨(arrOf st').toList.map un, ?_, ?_, ?_⟩
    · have := hl.map un
      refine this.trans (List.Perm.of_eq ?_)
      have : (as.map Value.ref).zip (as.map Value.ref) = as.map fun b => (Value.ref b, Value.ref b) := by
        rw [List.zip_map', ]
      rw [this, List.map_map]
      exact (List.map_congr_left fun b _ => rfl).trans (List.map_id as)
    · rw [List.pairwise_iff_getElem]
      intro i j hi hj hij
      have hi' : i < (arrOf st').size := by simpa using hi
      have hj' : j < (arrOf st').size := by simpa using hj
      have q := hs i j (Nat.le_of_lt hij) (by rw [← hp.size_eq]; exact hj')
      have kk : ∀ k (hk : k < (arrOf st').size), KK (cdKind s.heap.objs.size (cdOf T)) (arrOf st') k = (cdOf T (un (arrOf st')[k])).getD 0 := fun k hk => by
        have hmem : (arrOf st')[k] ∈ (arrOf st').toList := by simp
        unfold KK
        rw [getElem?_pos _ k hk]
        obtain ⟨b, hb, e⟩ := hm _ hmem
        rw [e]
        obtain ⟨l, hbl⟩ := hT b hb
        show (if b < s.heap.objs.size then cdOf T b else none).getD 0 = (cdOf T b).getD 0
        rw [if_pos (t.at_ _ hbl).lt]
      rw [kk i hi', kk j hj'] at q
      have q : decide ((cdOf T (un (arrOf st')[j])).getD 0 < (cdOf T (un (arrOf st')[i])).getD 0) = false := q
      have q := of_decide_eq_false q
      simp only [List.getElem_map, Array.getElem_toList]
      omega
    · apply Array.toList_inj.mp
      rw [Array.toList_map, List.map_map]
      refine List.map_congr_left fun p hp' => ?_
      rw [e1 p hp']; rfl
  show wpAny (model prog w) A _ P E { s with heap := g }
  dsimp only
  by_cases h2 : (as.map Value.ref).toArray.size < 2
  · rw [if_pos h2, if_pos h2]
    refine wpAny_bind (wpAny_pure ?_)
    rw [StateT.run_pure]
    refine wpAny_bind (wpAny_pure ?_)
    obtain ⟨bs, b1, b2, b3⟩ := fin (SortSt.mk' general' (pairsOf (as.map Value.ref)) #[] 7 none) (Array.Perm.refl _) fun i j hij hj => by
      have : i = j := by rw [pairsOf_size] at hj; simp at h2; rw [List.length_map] at hj; omega
      subst this; exact KeyOrd.kle_refl _
    have b4 := b1.length_eq
    refine wpAny_bind (seqEpoch_at ho6 rfl (wpAny_bind (listUpdate_at ho6 rfl ?_ (hsz := Nat.zero_le _) (hsz2 := Nat.le_succ_of_le (Nat.le_trans (Nat.le_of_eq (congrArg Array.size b3)) (hz _ (by simp; omega)))))))
    rw [bne_self_eq_false]
    have := h bs b1 b2
    rw [← b3] at this
    refine wpAny_pure ?_
    unfold sortedHeap at this
    rw [hg] at this
    exact this
  · rw [if_neg h2, if_neg h2]
    have h2' : 2 ≤ as.length := by rw [hsz] at h2; omega
    refine wpAny_bind (kas_kind (T := .type "list") (by simpa using h2') (fun v hv => ?_) rfl rfl ?_)
    · obtain ⟨b, hb, rfl⟩ := List.mem_map.mp hv
      obtain ⟨l, hbl⟩ := hT b hb
      obtain ⟨dd, items, k, sl, q1, _⟩ := t6.at_ _ hbl
      exact (Looks.ld q1).andThen .now
    · refine wpAny_bind (runs (N := s.heap.objs.size) (cd := cdOf T) (a₀ := pairsOf (as.map Value.ref)) (fun a c m n Q E => cmp_of t6 hu a c m n Q E) (fun p hp => ?_) (by rw [pairsOf_size]; simpa using h2') fun st' p1 p2 p3 => ?_)
      · rw [pairsOf_toList] at hp
        obtain ⟨b, hb, e⟩ := List.mem_map.mp (mem_zip_self hp).2
        obtain ⟨l, hbl⟩ := hT b hb
        obtain ⟨m, hm⟩ := look_of hbl
        exact ⟨cdl 5 m, by rw [← e]; exact key_of (t.at_ _ hbl).lt (by unfold cdOf; rw [hm]; rfl)⟩
      · obtain ⟨bs, b1, b2, b3⟩ := fin st' p1 p3
        have b4 := b1.length_eq
        dsimp only
        rw [p2]
        refine wpAny_bind (seqEpoch_at ho6 rfl (wpAny_bind (listUpdate_at ho6 rfl ?_ (hsz := Nat.zero_le _) (hsz2 := Nat.le_succ_of_le (Nat.le_trans (Nat.le_of_eq (congrArg Array.size b3)) (hz _ (by simp; omega)))))))
        rw [bne_self_eq_false]
        have := h bs b1 b2
        rw [← b3] at this
        refine wpAny_pure ?_
        unfold sortedHeap at this
        rw [hg] at this
        exact this
end
end Srt


end
section
set_option Elab.async false
set_option linter.all false
set_option maxRecDepth 100000
set_option maxHeartbeats 1000000
namespace Srt
open PySem PyProof.Rows PySem.W
section
variable {prog : Program} {w : World} {A : Around} {E : Value → Shared → Prop} {s : Shared}
theorem sorted_at {T : List (Addr × List Nat)} {l : Addr} {as : List Addr} {Q : Value → Shared → Prop} (hu : A.units + 64 < cLine) (hl : s.heap.IsList l (as.map Value.ref).toArray) (t : Told s.heap T) (hT : ∀ b ∈ as, ∃ l, (b, l) ∈ T)
    (hL : as.length ≤ 100000) (h : ∀ bs : List Addr, bs.Perm as → bs.Pairwise (fun x y => (cdOf T x).getD 0 ≤ (cdOf T y).getD 0) → Q (.ref (s.heap.objs.size + 1)) { s with heap := sortedAll s.heap (as.map Value.ref) (bs.map Value.ref).toArray }) :
    wpAny (model prog w) A (call (.builtin "sorted") [.ref l]) Q E s := by
  have hz : ∀ k, k ≤ 100000 → k ≤ sizeLine := fun k hk => by rw [sizeLine_eq]; omega
  refine Calls.call_function_entry kind_sorted plain_sorted entry_sorted (args_sorted1 _) ?_
  unfold Builtin.«sorted»
  refine wpAny_bind (m := checkCount "sorted" 1 1 _) (wpAny_pure (wpAny_bind (collect_list hl ?_ (hz _ (by simp; omega)))))
  refine wpAny_bind (wpAny_newList ?_ (hz _ (by simp; omega)))
  have hsz : ((s.heap.push (seqObj "list" #[] 0)).update s.heap.objs.size (Obj.mapSeq (· ++ (as.map Value.ref).toArray))).objs.size = s.heap.objs.size + 1 := by rw [Heap.size_update, size_push']
  have hoL : (((s.heap.push (seqObj "list" #[] 0)).update s.heap.objs.size (Obj.mapSeq (· ++ (as.map Value.ref).toArray))).push (seqObj "list" (as.map Value.ref).toArray 0)).get? (s.heap.objs.size + 1) = some (seqObj "list" (as.map Value.ref).toArray 0) := by rw [← hsz]; exact Heap.get?_push_size _ rfl
  have keep : ∀ b o, s.heap.get? b = some o → (((s.heap.push (seqObj "list" #[] 0)).update s.heap.objs.size (Obj.mapSeq (· ++ (as.map Value.ref).toArray))).push (seqObj "list" (as.map Value.ref).toArray 0)).get? b = some o := fun b o q => by
    have hlt : b < s.heap.objs.size := Heap.lt_size q
    rw [Heap.get?_push_ne _ _ _ (by rw [hsz]; exact Nat.ne_of_lt (Nat.lt_succ_of_lt hlt)), Heap.get?_update_ne _ _ _ _ (Nat.ne_of_lt hlt), Heap.get?_push_ne _ _ _ (Nat.ne_of_lt hlt)]; exact q
  show wpAny _ _ _ _ _ { s with heap := ((s.heap.push (seqObj "list" #[] 0)).update s.heap.objs.size (Obj.mapSeq (· ++ (as.map Value.ref).toArray))).push (seqObj "list" (as.map Value.ref).toArray 0) }
  rw [hsz]
  refine wpAny_bind (wpAny_holding (wpAny_call_entry slot_list_sort ⟨_, hoL, rfl⟩ entry_list_sort (sort_at (T := T) ?_ hoL ⟨fun p hp => (t.at_ p hp).keep keep, t.few⟩ hT (fun p hp => Nat.ne_of_lt (Nat.lt_succ_of_lt (t.at_ p hp).lt)) hL fun bs b1 b2 => ⟨_, rfl, wpAny_pure ⟨_, rfl, h bs b1 b2⟩⟩) (args_list_sort _)))
  show A.units + 1 + 1 < cLine
  omega
end
end Srt
namespace L2
open PySem PyProof.Rows PySem.W
section
variable {X : Cx}
def rSortedL (K : PySem.W.Frag) : List V → Hp → VK → Prop := fun vs H Q => ∃ (R : Addr → List Nat → Prop) (a : Addr) (as : List Addr) (ls : List (List Nat)), vs = [V.ref a] ∧ SqL K H a (as.map V.ref) ∧ (∀ p l, R p l → SqL K H p (l.map fun (x : Nat) => V.int (x : Int))) ∧ Paired R as ls ∧
  (∀ l ∈ ls, l.length ≤ 5 ∧ ∀ x ∈ l, x < 15) ∧ ls.Nodup ∧ as.length ≤ 100000 ∧
  ∀ (bs : List Addr) (ms : List (List Nat)) (p : Addr), Paired R bs ms → ms.Perm ls → ms.Pairwise Ord.lx → H p = none → Q (.ref p) (upd H p (.lst (bs.map V.ref)))
theorem vals_refs : ∀ {as : List Addr} {us : List Value}, Vals (as.map V.ref) us → us = as.map Value.ref
  | [], _, r => by cases r; rfl
  | a :: as, _, r => by
    cases r with
    | cons r t => cases r; rw [List.map_cons, vals_refs t]
theorem refs_vals : ∀ as : List Addr, Vals (as.map V.ref) (as.map Value.ref)
  | [] => .nil
  | a :: as => .cons rfl (refs_vals as)
theorem its_of : ∀ {l : List Nat} {us : List Value}, Vals (l.map fun (x : Nat) => V.int (x : Int)) us → Srt.Its us.toArray (Srt.toI l)
  | [], us, r => by
    cases r
    exact ⟨rfl, fun j x h => by simp [Srt.toI] at h⟩
  | y :: l, us, r => by
    cases r with
    | cons r t =>
      obtain ⟨tk, rfl⟩ := r
      obtain ⟨h1, h2⟩ := its_of t
      refine ⟨by simpa [Srt.toI] using h1, fun j x h => ?_⟩
      cases j with
      | zero =>
        have : (y : Int) = x := by simpa [Srt.toI] using h
        subst this
        exact ⟨tk, by simp⟩
      | succ j =>
        obtain ⟨t', ht⟩ := h2 j x (by simpa [Srt.toI] using h)
        exact ⟨t', by simpa using ht⟩
theorem lx_cdl : ∀ (k : Nat) (l m : List Nat), l.length ≤ k → m.length ≤ k → (∀ x ∈ l, x < 15) → (∀ x ∈ m, x < 15) → Srt.cdl k l ≤ Srt.cdl k m → l ≠ m → Ord.lx l m
  | k, [], [], _, _, _, _, _, h => absurd rfl h
  | k, [], y :: t, _, _, _, _, _, _ => trivial
  | 0, x :: r, _, h, _, _, _, _, _ => absurd h (by simp)
  | k + 1, x :: r, [], _, _, _, _, h, _ => by
    have : (x + 1) * 16 ^ k + Srt.cdl k r ≤ 0 := h
    have : 0 < (x + 1) * 16 ^ k := Nat.mul_pos (by omega) (Nat.pow_pos (by decide))
    omega
  | k + 1, x :: r, y :: t, h1, h2, h3, h4, h, hne => by
    have q1 : ∀ z ∈ r, z < 15 := fun z hz => h3 z (by simp [hz])
    have q2 : ∀ z ∈ t, z < 15 := fun z hz => h4 z (by simp [hz])
    have b1 := Srt.cdl_lt k r q1
    have b2 := Srt.cdl_lt k t q2
    have h : (x + 1) * 16 ^ k + Srt.cdl k r ≤ (y + 1) * 16 ^ k + Srt.cdl k t := h
    by_cases e : x = y
    · subst e
      exact .inr ⟨rfl, lx_cdl k r t (by simpa using h1) (by simpa using h2) q1 q2 (by omega) fun z => hne (by rw [z])⟩
    · refine .inl ?_
      by_cases c : x < y
      · exact c
      · have : (y + 1) * 16 ^ k + 16 ^ k ≤ (x + 1) * 16 ^ k := by
          rw [← Nat.succ_mul]; exact Nat.mul_le_mul_right _ (by omega)
        omega
theorem pr_zip {α β : Type} {R : α → β → Prop} : ∀ {xs : List α} {ys : List β}, Paired R xs ys → (∀ p ∈ xs.zip ys, R p.1 p.2) ∧ (∀ x ∈ xs, ∃ y, (x, y) ∈ xs.zip ys) ∧ (∀ p ∈ xs.zip ys, p.2 ∈ ys) ∧ (xs.zip ys).map Prod.snd = ys ∧ (xs.zip ys).map Prod.fst = xs
  | _, _, .nil => ⟨fun _ h => by simp at h, fun _ h => by simp at h, fun _ h => by simp at h, rfl, rfl⟩
  | x :: xs, y :: ys, .cons r t => by
    obtain ⟨h1, h2, h3, h4, h5⟩ := pr_zip t
    rw [List.zip_cons_cons]
    refine ⟨fun p hp => ?_, fun z hz => ?_, fun p hp => ?_, by rw [List.map_cons, h4], by rw [List.map_cons, h5]⟩
    · rcases List.mem_cons.mp hp with rfl | hp
      · exact r
      · exact h1 p hp
    · rcases List.mem_cons.mp hz with rfl | hz
      · exact ⟨y, List.mem_cons_self ..⟩
      · obtain ⟨w, hw⟩ := h2 z hz; exact ⟨w, List.mem_cons_of_mem _ hw⟩
    · rcases List.mem_cons.mp hp with rfl | hp
      · exact List.mem_cons_self ..
      · exact List.mem_cons_of_mem _ (h3 p hp)
theorem pr_of {α β : Type} {R : α → β → Prop} : ∀ {T : List (α × β)}, (∀ p ∈ T, R p.1 p.2) → Paired R (T.map Prod.fst) (T.map Prod.snd)
  | [], _ => .nil
  | p :: T, h => .cons (h p (List.mem_cons_self ..)) (pr_of fun q hq => h q (List.mem_cons_of_mem _ hq))
theorem cr_sortedL (hu : X.A.units + 64 < cLine) : CallR X (.builtin "sorted") (rSortedL X.K) := by
  intro pins s σ H vs us Q I r h
  obtain ⟨R, a, as, ls, rfl, hs, hR, hp, hb, hnd, hlen, q⟩ := h
  obtain ⟨its, rv, hl, _⟩ := I.list hs
  rw [Vals.ref1 r]
  have e := vals_refs rv
  subst e
  obtain ⟨z1, z2, z3, z4, z5⟩ := pr_zip hp
  have t : Srt.Told s.heap (as.zip ls) := ⟨fun p hp => by
    obtain ⟨its', rv', ⟨⟨cls, dd, data, sl⟩, n, ho, hc, hdn, hd⟩, _⟩ := I.list (hR _ _ (z1 p hp))
    simp only at hc hd
    subst hc hd
    exact ⟨dd, its'.toArray, n, sl, ho, its_of rv'⟩, fun p hp => hb _ (z3 p hp)⟩
  have uni : ∀ (b : Addr) (l l' : List Nat), Srt.LAt s.heap b l → Srt.LAt s.heap b l' → l = l' := fun b l l' x y => by
    obtain ⟨_, _, _, _, h1, h2⟩ := x
    obtain ⟨_, _, _, _, g1, g2⟩ := y
    rw [h1] at g1
    cases g1
    have e : Srt.toI l = Srt.toI l' := by
      apply List.ext_getElem?
      intro j
      have hl1 := h2.1
      have hl2 := g2.1
      by_cases hj : j < (Srt.toI l).length
      · obtain ⟨t1, q1⟩ := h2.2 j _ (List.getElem?_eq_getElem hj)
        obtain ⟨t2, q2⟩ := g2.2 j _ (List.getElem?_eq_getElem (by omega))
        rw [q1] at q2
        have q2 := Option.some.inj q2
        injection q2 with q2 _
        rw [List.getElem?_eq_getElem hj, List.getElem?_eq_getElem (by omega), q2]
      · rw [List.getElem?_eq_none (by omega), List.getElem?_eq_none (by omega)]
    have inj : ∀ {l l' : List Nat}, Srt.toI l = Srt.toI l' → l = l' := fun {l l'} e => by
      have := congrArg (List.map Int.toNat) e
      unfold Srt.toI at this
      rw [List.map_map, List.map_map] at this
      rw [show (Int.toNat ∘ fun (x : Nat) => (x : Int)) = id from funext fun x => Int.toNat_natCast x] at this
      simpa using this
    exact inj e
  let lk : Addr → List Nat := fun b => ((as.zip ls).lookup b).getD []
  have hlk : ∀ p ∈ as.zip ls, lk p.1 = p.2 ∧ (as.zip ls).lookup p.1 = some p.2 := fun p hp => by
    obtain ⟨m, hm⟩ := Srt.look_of (show (p.1, p.2) ∈ as.zip ls from hp)
    have e : m = p.2 := uni p.1 m p.2 (t.at_ _ (Srt.look_mem hm)) (t.at_ _ hp)
    subst e
    exact ⟨by show ((as.zip ls).lookup p.1).getD [] = p.2; rw [hm]; rfl, hm⟩
  have hmap : as.map lk = ls := by
    refine Eq.trans ?_ z4
    conv => lhs; rw [← z5]
    rw [List.map_map]
    exact List.map_congr_left fun p hp => (hlk p hp).1
  refine Srt.sorted_at (T := as.zip ls) hu hl.isList t z2 hlen fun bs b1 b2 => ?_
  have hbz : ∀ b ∈ bs, (b, lk b) ∈ as.zip ls ∧ (as.zip ls).lookup b = some (lk b) := fun b hb' => by
    obtain ⟨l, hl⟩ := z2 b (b1.mem_iff.mp hb')
    obtain ⟨e1, e2⟩ := hlk _ hl
    have e1 : lk b = l := e1
    rw [e1]
    exact ⟨hl, e2⟩
  have hperm : (bs.map lk).Perm ls := by
    have := b1.map lk
    rw [hmap] at this
    exact this
  obtain ⟨ep, he'⟩ := sortedAll_at s.heap (as.map Value.ref) (bs.map Value.ref).toArray
  have hlen2 : (bs.map V.ref).length ≤ sizeLine := by rw [List.length_map, b1.length_eq, sizeLine_eq]; omega
  refine ⟨.ref _, upd H (s.heap.objs.size + 1) (.lst (bs.map V.ref)), I.laid (t' := s.toks) (fun _ _ => sortedAll_old) (Nat.le_succ _) ⟨hlen2, bs.map Value.ref, ep, refs_vals bs, he'⟩, rfl, ?_⟩
  refine q bs (bs.map lk) _ ?_ hperm ?_ (I.hok.fresh (Nat.le_succ _))
  · have := pr_of (R := R) (T := bs.map fun b => (b, lk b)) fun p hp => by
      obtain ⟨b, hb', rfl⟩ := List.mem_map.mp hp
      exact z1 _ (hbz b hb').1
    rw [List.map_map, List.map_map] at this
    rw [show (Prod.fst ∘ fun b : Addr => (b, lk b)) = id from rfl, List.map_id] at this
    exact this
  · have hnd2 : (bs.map lk).Pairwise (· ≠ ·) := hperm.nodup_iff.mpr hnd
    rw [List.pairwise_map] at hnd2 ⊢
    refine (b2.and hnd2).imp_of_mem fun {x y} hx hy hxy => ?_
    have ex := (hbz x hx)
    have ey := (hbz y hy)
    have c := hxy.1
    unfold Srt.cdOf at c
    rw [ex.2, ey.2] at c
    have fx := hb _ (z3 _ ex.1)
    have fy := hb _ (z3 _ ey.1)
    exact lx_cdl 5 _ _ fx.1 fy.1 fx.2 fy.2 c hxy.2
end
end L2


end
section
set_option Elab.async false
set_option linter.all false
set_option maxRecDepth 100000
set_option maxHeartbeats 1000000
namespace My
open PySem PySem.Spec PyProof.Rows L2
open Kri4 (times turned turnedSet)
open Kri8 (House)
abbrev sOut : Stmt := top 20
abbrev sIdle : Stmt := top 21
abbrev sPairs : Stmt := top 22
theorem shaped_ints (l : List Nat) : SeqAt.shaped (.list (l.map fun (x : Nat) => PyData.int (x : Int))) = true := by
  have h1 : ∀ l : List Nat, PyData.canLayAll0 (l.map fun (x : Nat) => PyData.int (x : Int)) = true := fun l => by
    induction l with
    | nil => rfl
    | cons x l ih => rw [List.map_cons, PyData.canLayAll0, ih, PyData.canLay0]; rfl
  have h2 : ∀ l : List Nat, PyData.depthAll (l.map fun (x : Nat) => PyData.int (x : Int)) = 0 := fun l => by
    induction l with
    | nil => rfl
    | cons x l ih => rw [List.map_cons, PyData.depthAll, ih, PyData.depth]; rfl
  unfold SeqAt.shaped
  rw [PyData.canLay0, h1, PyData.depth, h2]
  rfl
def outM (h : House) : List Nat := h.det :: h.table
theorem idle_out {h : House} {i j : Nat} : h.idle i j = (h.at_ i j != 1 && decide (outM (h.without i j) = outM h)) := by
  unfold House.idle outM
  congr 1
  by_cases h1 : (h.without i j).det = h.det
  · by_cases h2 : (h.without i j).table = h.table
    · rw [decide_eq_true (by rw [h1, h2]), h1, h2]; simp
    · rw [decide_eq_false (fun z => h2 (List.cons.inj z).2)]; simp [h2]
  · rw [decide_eq_false (fun z => h1 (List.cons.inj z).1)]; simp [h1]
section
variable {P : Program} {w : World} {K : PySem.W.Frag} {mg : Str → Option Value} {base : Heap} {f C : Addr} {fd : FuncData}
def nOut : List Str := ["table", "whole", "told", "pushed"]
theorem scOut : FnScope nOut ["table"] (defScope sOut) := ⟨rfl, rfl, rfl, by decide +kernel, rfl, by decide +kernel, by decide +kernel⟩
def spOut (K : PySem.W.Frag) : Sp := fun vs H Q _ => ∃ (a : Addr) (h : House), vs = [.ref a] ∧ TabAt K H a h.on ∧ Wf h ∧
  ∀ (H' : Hp) (r : Addr), Same H H' → H r = none → H' r = some (.lst ((outM h).map nV)) → Q (.ref r) H'
theorem c_out (F : Fun K "outcome" "outcome" sOut f fd) (hm : mg "outcome" = some (.ref f)) (Cs : Cst mg) (B : Blt mg) (cD : Cal P w K mg base 4 "determinant" ["table"] (spDet K)) (cQ : Cal P w K mg base 1 "is_sure" ["signs"] spSure)
    (cO : Cal P w K mg base 2 "one_push" nOne spOne) (cH : Cal P w K mg base 6 "changes" ["table", "pushes"] (spChs K)) : Cal P w K mg base 7 "outcome" ["table"] (spOut K) := by
  refine ⟨f, fd, F.ok scOut (fun vs H Q E h => ?_) (fun cdv A outer s H vs Q E hr h => ?_), hm, F.kp, F.binds fun _ _ _ _ _ _ us hl => match us, hl with | [_], _ => rfl⟩
  · obtain ⟨_, _, rfl, _⟩ := h; rfl
  · obtain ⟨a, h, rfl, hA, wf, k⟩ := h
    have hn := wf.n5
    refine ⟨_, pss_cons (ps_set (i := 1) scOut.nd rfl (Or.inl rfl) (pcall cD hr (by decide) rfl (pa_cons (pv 0) pa_nil)))
      (pss_cons (ps_set (i := 2) scOut.nd rfl (Or.inl rfl) (pe_lst (pa_cons (pv 1) pa_nil)))
      (pss_cons (ps_if (pt_val (pcall cQ hr (by decide) rfl (pa_cons (pv 1) pa_nil)))
        (pss_one (ps_for PassesOwn.never rfl (pi_range1 rfl B.range (pa_cons (pe_callB call_len_seq (by rfl) B.len PySem.boot_len (pa_cons (pv 0) pa_nil)) pa_nil)) (pg_name (i := 3) scOut.nd rfl (Or.inl rfl))
          (pss_one (ps_expr (pe_bm PySem.F.plainAttrs_list PySem.F.slot_list_extend PySem.F.type_list_extend mt_extend (pv 2) (pa_cons (pcall cH hr (Nat.le_refl _) rfl (pa_cons (pv 0) (pa_cons (pcall cO hr (by decide) rfl (pa_cons (pe_callB call_len_seq (by rfl) B.len PySem.boot_len (pa_cons (pv 0) pa_nil)) (pa_cons (pv 3) (pa_cons (pgc rfl Cs.above) pa_nil)))) pa_nil))) pa_nil)))))) pss_nil)
      (pss_one (ps_ret (pv 2))))), ?_⟩
    refine ⟨_, rfl, a, h.on, h.n, rfl, hA, hn, wf.len, wf.sq, fun H1 s1 => ⟨_, rfl, one_le, fun p hp => ?_⟩⟩
    have s2 : Same H1 (upd H1 p (.lst [nV (Mth.detM h.on)])) := (Same.refl H1).upd hp
    have hp0 := s1.free hp
    have s12 := s1.trans s2
    have ed := det_eq wf
    refine ⟨_, rfl, Mth.detM h.on, rfl, _, rfl, ?_⟩
    cases hs : Kri4.sure (Mth.detM h.on) with
    | false =>
      refine iteF ⟨_, rfl, k _ p s12 hp0 ?_⟩
      have e : outM h = [Mth.detM h.on] := by
        unfold outM House.table
        rw [ed] at hs
        rw [hs, ed]; rfl
      rw [upd_same, e]; rfl
    | true =>
      obtain ⟨vs, hvs, hpr⟩ := id hA
      have hvl : vs.length = h.n := by rw [pr_len hpr, wf.len]
      have hs' : Kri4.sure h.det = true := by rw [← ed]; exact hs
      have s12' := s12
      refine iteT ⟨_, rfl, a, vs, rfl, .inl (s12.seq hvs), (h.n : Int), by rw [hvl], by omega, by omega, for_range (fun i σ H' => ∃ o3 : Option V, σ = [some (.ref a), some (nV (Mth.detM h.on)), some (.ref p), o3] ∧ Same H H' ∧ H' p = some (.lst ((h.det :: (List.range i).flatMap fun x => h.qs.map fun y => h.endsBy (h.alone x 2) y).map nV))) ⟨none, rfl, s12, by rw [upd_same, ed]; rfl⟩ ?_ ?_⟩
      · rintro i σ H2 hi ⟨o3, rfl, s3, hp2⟩
        have hi : i < h.n := by omega
        rw [Int.zero_add]
        refine ⟨_, rfl, .inl ⟨rfl, _, SqL.of hp2⟩, _, rfl, _, rfl, a, vs, rfl, .inl (s3.seq hvs), _, rfl, h.n, i, 2, by rw [hvl]; rfl, hn, hi, fun H3 r3 s4 hr0 hr3 => ?_⟩
        have s34 := s3.trans s4
        refine ⟨a, r3, h.on, h.n, h.alone i 2, rfl, hA.same s34, hn, wf.len, wf.sq, SqL.of hr3, (alone_le (by decide)).1, (alone_le (by decide)).2, fun H4 r4 s5 hq0 hr4 => ?_⟩
        have s45 := s34.trans s5
        have hlen : ((h.det :: (List.range i).flatMap fun x => h.qs.map fun y => h.endsBy (h.alone x 2) y).map nV).length ≤ 26 := by
          rw [List.length_map, List.length_cons, List.length_flatMap]
          have : ∀ l : List Nat, (l.map fun x => (h.qs.map fun y => h.endsBy (h.alone x 2) y).length).sum = l.length * h.n := fun l => by
            induction l with
            | nil => simp
            | cons x l ih => rw [List.map_cons, List.sum_cons, ih, List.length_map, List.length_cons, Nat.succ_mul, House.qs, List.length_range]; omega
          rw [this, List.length_range]
          have : i * h.n ≤ 5 * 5 := Nat.mul_le_mul (by omega) hn
          omega
        have hl2 : (((List.range h.n).map fun j => changeM h.on (h.alone i 2) j).map nV).length = h.n := by simp
        refine ⟨p, r4, _, _, rfl, rfl, s5 _ _ (s4 _ _ hp2), hr4, Nat.le_of_lt (small (by rw [hl2]; omega)), ⟨_, rfl, SameQ.same s45 hp0 SameQ.put, ?_⟩⟩
        rw [upd_same, List.range_succ, List.flatMap_append, List.flatMap_cons, List.flatMap_nil, List.append_nil, ← List.cons_append, List.map_append]
        congr 3
        have : ((List.range h.n).map fun j => changeM h.on (h.alone i 2) j) = h.qs.map fun y => h.endsBy (h.alone i 2) y :=
          List.map_congr_left fun j hj => change_eq wf (alone_le (by decide)).1 (List.mem_range.mp hj) hs'
        rw [this]
      · rintro σ H2 ⟨o3, rfl, s3, hp2⟩
        refine ⟨_, rfl, k H2 p s3 hp0 ?_⟩
        rw [hp2, show ((h.n : Nat) : Int).toNat = h.n by omega]
        unfold outM House.table
        rw [if_pos hs']; rfl
def nIdle : List Str := ["table", "whole_outcome", "acting", "upon"]
theorem scIdle : FnScope nIdle nIdle (defScope sIdle) := ⟨rfl, rfl, rfl, by decide +kernel, rfl, by decide +kernel, by decide +kernel⟩
def spIdle (K : PySem.W.Frag) : Sp := fun vs H Q _ => ∃ (a o : Addr) (h : House) (j i : Nat), vs = [.ref a, .ref o, nV j, nV i] ∧ TabAt K H a h.on ∧ Wf h ∧ SqL K H o ((outM h).map nV) ∧ j < h.n ∧ i < h.n ∧
  ∀ H' : Hp, Same H H' → Q (.bl (h.idle i j)) H'
theorem tab_cell {K : PySem.W.Frag} {H : Hp} {a : Addr} {h : House} (hA : TabAt K H a h.on) (wf : Wf h) {i j : Nat} (hi : i < h.n) (hj : j < h.n) : ∃ (vs : List V) (r : Addr) (row : List Nat), SqL K H a vs ∧ vs[i]? = some (.ref r) ∧ SqL K H r (row.map nV) ∧ (row.map nV)[j]? = some (nV (h.at_ i j)) ∧ row.length = h.n := by
  obtain ⟨vs, h2, h4⟩ := hA
  have hl := pr_len h4
  obtain ⟨v, hv⟩ : ∃ v, vs[i]? = some v := ⟨_, List.getElem?_eq_getElem (by rw [hl, wf.len]; exact hi)⟩
  obtain ⟨row, hrow, r, rfl, hra⟩ := pr_get' h4 hv
  have hrl := (wf.sq row (List.mem_of_getElem? hrow)).1
  refine ⟨vs, r, row, h2, hv, hra, ?_, hrl⟩
  have e : row[j]? = some row[j] := List.getElem?_eq_getElem (by omega)
  rw [List.getElem?_map, at_row wf hi hrow j, List.getD_eq_getElem?_getD, e]; rfl
theorem ne_one (x : Nat) : (!decide (nV x = V.int 1)) = (x != 1) := by
  by_cases e : x = 1
  · subst e; rfl
  · have h1 : (x != 1) = true := by simpa using e
    rw [h1, decide_eq_false]; · rfl
    intro z; injection z with z; omega
theorem c_idle (F : Fun K "is_idle" "is_idle" sIdle f fd) (hm : mg "is_idle" = some (.ref f)) (Cs : Cst mg) (cO : Cal P w K mg base 7 "outcome" ["table"] (spOut K)) (cW : Cal P w K mg base 2 "table_without" nWo (spWo K)) : Cal P w K mg base 8 "is_idle" nIdle (spIdle K) := by
  refine ⟨f, fd, F.ok scIdle (fun vs H Q E h => ?_) (fun cdv A outer s H vs Q E hr h => ?_), hm, F.kp, F.binds fun _ _ _ _ _ _ us hl => match us, hl with | [_, _, _, _], _ => rfl⟩
  · obtain ⟨_, _, _, _, _, rfl, _⟩ := h; rfl
  · obtain ⟨a, o, h, j, i, rfl, hA, wf, ho, hj, hi, k⟩ := h
    obtain ⟨vs, r, row, h1, h2, h3, h4, hrl⟩ := tab_cell hA wf hi hj
    refine ⟨_, pss_one (ps_ret (pe_and (pe_cmpR op_ne (pe_ix ix_list (pe_ix ix_list (pv 0) (pv 3) (fun _ _ => rfl)) (pv 2) (fun _ _ => rfl)) (pgc rfl Cs.non) (nomark _)) (pe_one (pe_cmpR (op_eqD hr.units) (pcall cO hr (Nat.le_refl _) rfl (pa_cons (pcall cW hr (by decide) rfl (pa_cons (pv 0) (pa_cons (pv 2) (pa_cons (pv 3) pa_nil)))) pa_nil)) (pv 1) (nomark _))))), ?_⟩
    refine ⟨_, rfl, _, rfl, a, vs, _, _, rfl, rfl, h1, atI_nat h2, _, rfl, r, _, _, _, rfl, rfl, h3, atI_nat h4, rfl, _, rfl, ?_⟩
    rw [ne_one]
    rw [idle_out] at k
    cases hc : (h.at_ i j != 1) with
    | false =>
      rw [hc] at k
      exact iteF (k H (Same.refl H))
    | true =>
      rw [hc] at k
      have wf2 : Wf (h.without i j) := without_wf wf hi hj 1 (by decide)
      refine iteT ⟨_, rfl, _, rfl, _, rfl, a, h, j, i, rfl, hA, wf, hj, hi, fun H1 r1 s1 hr0 hr1 => ⟨r1, h.without i j, rfl, hr1, wf2, fun H2 r2 s2 hq0 hr2 => ?_⟩⟩
      refine ⟨_, rfl, _, _, .lst (SqL.of hr2) (dp_ints _), .lst ((s1.trans s2).seq ho) (dp_ints _), shaped_ints _, shaped_ints _, ?_⟩
      rw [PyData.eqv, eqv_ints]
      exact k H2 (s1.trans s2)
end
end My


end
section
set_option Elab.async false
set_option linter.all false
set_option maxRecDepth 100000
set_option maxHeartbeats 1000000
namespace My
open PySem PySem.Spec PyProof.Rows L2
open Kri4 (times turned turnedSet)
open Kri8 (House)
def rowM (h : House) (j : Nat) : List (Nat × Nat) := (h.qs.filter fun i => h.idle i j).map fun i => (j, i)
def pairsM (h : House) : List (Nat × Nat) := h.qs.flatMap (rowM h)
def PairAt (H : Hp) (v : V) (x : Nat × Nat) : Prop := ∃ t, v = .ref t ∧ H t = some (.tup [nV x.1, nV x.2])
def PairQ (q : Addr) (H : Hp) (v : V) (x : Nat × Nat) : Prop := ∃ t, v = .ref t ∧ H t = some (.tup [nV x.1, nV x.2]) ∧ t ≠ q
theorem PairQ.keep {q : Addr} {H H' : Hp} {v : V} {x : Nat × Nat} (s : SameQ q H H') (h : PairQ q H v x) : PairQ q H' v x := let ⟨t, e, h1, n⟩ := h; ⟨t, e, s _ _ h1 n, n⟩
theorem PairQ.at_ {q : Addr} {H : Hp} {v : V} {x : Nat × Nat} (h : PairQ q H v x) : PairAt H v x := let ⟨t, e, h1, _⟩ := h; ⟨t, e, h1⟩
theorem flat_le {α β : Type} {f : α → List β} {n : Nat} (h : ∀ x, (f x).length ≤ n) : ∀ l : List α, (l.flatMap f).length ≤ l.length * n
  | [] => by simp
  | x :: l => by
    rw [List.flatMap_cons, List.length_append, List.length_cons, Nat.succ_mul]
    have := flat_le h l
    have := h x
    omega
theorem rowM_len (h : House) (j : Nat) : (rowM h j).length ≤ h.n := by
  unfold rowM
  rw [List.length_map]
  exact Nat.le_trans (List.length_filter_le _ _) (by unfold House.qs; simp)
section
variable {P : Program} {w : World} {K : PySem.W.Frag} {mg : Str → Option Value} {base : Heap} {f C : Addr} {fd : FuncData}
def nPairs : List Str := ["table", "whole_outcome", "pairs", "acting", "upon"]
theorem scPairs : FnScope nPairs ["table"] (defScope sPairs) := ⟨rfl, rfl, rfl, by decide +kernel, rfl, by decide +kernel, by decide +kernel⟩
def spPairs (K : PySem.W.Frag) : Sp := fun vs H Q _ => ∃ (a : Addr) (h : House), vs = [.ref a] ∧ TabAt K H a h.on ∧ Wf h ∧
  ∀ (H' : Hp) (r : Addr) (ws : List V), Same H H' → H r = none → H' r = some (.lst ws) → Paired (PairAt H') ws (pairsM h) → Q (.ref r) H'
theorem c_pairs (F : Fun K "idle_pairs" "idle_pairs" sPairs f fd) (hm : mg "idle_pairs" = some (.ref f)) (B : Blt mg) (cO : Cal P w K mg base 7 "outcome" ["table"] (spOut K)) (cI : Cal P w K mg base 8 "is_idle" nIdle (spIdle K)) : Cal P w K mg base 9 "idle_pairs" ["table"] (spPairs K) := by
  refine ⟨f, fd, F.ok scPairs (fun vs H Q E h => ?_) (fun cdv A outer s H vs Q E hr h => ?_), hm, F.kp, F.binds fun _ _ _ _ _ _ us hl => match us, hl with | [_], _ => rfl⟩
  · obtain ⟨_, _, rfl, _⟩ := h; rfl
  · obtain ⟨a, h, rfl, hA, wf, k⟩ := h
    have hn := wf.n5
    obtain ⟨vs, hvs, hpr⟩ := id hA
    have hvl : vs.length = h.n := by rw [pr_len hpr, wf.len]
    refine ⟨_, pss_cons (ps_set (i := 1) scPairs.nd rfl (Or.inl rfl) (pcall cO hr (by decide) rfl (pa_cons (pv 0) pa_nil)))
      (pss_cons (ps_set (i := 2) scPairs.nd rfl (Or.inl rfl) (pe_lst pa_nil))
      (pss_cons (ps_for PassesOwn.never rfl (pi_range1 rfl B.range (pa_cons (pe_callB call_len_seq (by rfl) B.len PySem.boot_len (pa_cons (pv 0) pa_nil)) pa_nil)) (pg_name (i := 3) scPairs.nd rfl (Or.inl rfl))
        (pss_one (ps_for PassesOwn.never rfl (pi_range1 rfl B.range (pa_cons (pe_callB call_len_seq (by rfl) B.len PySem.boot_len (pa_cons (pv 0) pa_nil)) pa_nil)) (pg_name (i := 4) scPairs.nd rfl (Or.inl rfl))
          (pss_one (ps_if (pt_val (pcall cI hr (Nat.le_refl _) rfl (pa_cons (pv 0) (pa_cons (pv 1) (pa_cons (pv 3) (pa_cons (pv 4) pa_nil))))))
            (pss_one (ps_expr (pe_bm PySem.F.plainAttrs_list PySem.F.slot_list_append PySem.F.type_list_append mt_append (pv 2) (pa_cons (pe_tup (pa_cons (pv 3) (pa_cons (pv 4) pa_nil))) pa_nil)))) pss_nil)))))
      (pss_one (ps_ret (pv 2))))), ?_⟩
    refine ⟨_, rfl, a, h, rfl, hA, wf, fun H1 o s1 ho0 ho => ⟨Nat.zero_le _, fun p hp => ?_⟩⟩
    have s2 : Same H1 (upd H1 p (.lst [])) := (Same.refl H1).upd hp
    have hp0 := s1.free hp
    have n1 : o ≠ p := ne_of_none ho hp
    refine ⟨_, rfl, a, vs, rfl, .inl ((s1.trans s2).seq hvs), (h.n : Int), by rw [hvl], by omega, by omega, for_range (fun i σ H' => ∃ (o3 o4 : Option V) (ws : List V), σ = [some (.ref a), some (.ref o), some (.ref p), o3, o4] ∧ SameQ p H1 H' ∧ H' p = some (.lst ws) ∧ Paired (PairQ p H') ws ((List.range i).flatMap (rowM h))) ⟨none, none, [], rfl, SameQ.of s2, upd_same, .nil⟩ ?_ ?_⟩
    · rintro j σ H2 hj ⟨o3, o4, ws, rfl, s3, hp2, hw⟩
      have hj : j < h.n := by omega
      rw [Int.zero_add]
      have sH : ∀ {H' : Hp}, SameQ p H1 H' → Same H H' := fun s => SameQ.same s1 hp0 s
      have hwl : ws.length ≤ 25 := by
        rw [pr_len hw]
        have := flat_le (rowM_len h) (List.range j)
        rw [List.length_range] at this
        have : j * h.n ≤ 5 * 5 := Nat.mul_le_mul (by omega) hn
        omega
      refine ⟨_, rfl, a, vs, rfl, .inl ((sH s3).seq hvs), (h.n : Int), by rw [hvl], by omega, by omega, for_range (fun m σ H' => ∃ (o4 : Option V) (us : List V), σ = [some (.ref a), some (.ref o), some (.ref p), some (nV j), o4] ∧ SameQ p H1 H' ∧ H' p = some (.lst us) ∧ Paired (PairQ p H') us (((List.range j).flatMap (rowM h)) ++ ((List.range m).filter fun i => h.idle i j).map fun i => (j, i))) ⟨o4, ws, rfl, s3, hp2, by simpa using hw⟩ ?_ ?_⟩
      · rintro m σ H3 hm ⟨o4, us, rfl, s4, hp3, hu⟩
        have hm : m < h.n := by omega
        rw [Int.zero_add]
        refine ⟨_, rfl, _, rfl, _, rfl, _, rfl, a, o, h, j, m, rfl, hA.same (sH s4), wf, SqL.of (s4 _ _ ho n1), hj, hm, fun H4 s5 => ⟨_, rfl, ?_⟩⟩
        have hul : us.length ≤ 31 := by
          rw [pr_len hu, List.length_append, List.length_map]
          have h1 := flat_le (rowM_len h) (List.range j)
          rw [List.length_range] at h1
          have h2 : j * h.n ≤ 5 * 5 := Nat.mul_le_mul (by omega) hn
          have h3 : ((List.range m).filter fun i => h.idle i j).length ≤ m := Nat.le_trans (List.length_filter_le _ _) (by simp)
          omega
        cases hid : h.idle m j with
        | false =>
          refine iteF ⟨_, us, rfl, s4.trans (SameQ.of s5), s5 _ _ hp3, ?_⟩
          rw [List.range_succ, List.filter_append, List.filter_cons, hid, if_neg Bool.false_ne_true, List.filter_nil, List.append_nil]
          exact pr_imp hu fun _ _ z => z.keep (SameQ.of s5)
        | true =>
          refine iteT ⟨_, rfl, .inl ⟨rfl, _, SqL.of (s5 _ _ hp3)⟩, _, rfl, _, rfl, by show 2 ≤ sizeLine; decide, fun t ht => ?_⟩
          have s6 := s5.upd (o := .tup [nV j, nV m]) (s5.free ht)
          have nt : t ≠ p := fun z => by rw [z, s5 _ _ hp3] at ht; cases ht
          refine ⟨p, us, _, rfl, rfl, s6 _ _ hp3, small (by omega), ⟨_, us ++ [.ref t], rfl, (s4.trans (SameQ.of s6)).trans SameQ.put, upd_same, ?_⟩⟩
          rw [List.range_succ, List.filter_append, List.filter_cons, hid, if_pos rfl, List.filter_nil, List.map_append, ← List.append_assoc]
          refine pr_app (pr_imp hu fun _ _ z => z.keep ((SameQ.of s6).trans SameQ.put)) (.cons ⟨t, rfl, ?_, nt⟩ .nil)
          rw [upd_ne nt]; exact upd_same
      · rintro σ H3 ⟨o4, us, rfl, s4, hp3, hu⟩
        refine ⟨_, _, us, rfl, s4, hp3, ?_⟩
        rw [List.range_succ, List.flatMap_append, List.flatMap_cons, List.flatMap_nil, List.append_nil]
        rw [show ((h.n : Nat) : Int).toNat = h.n by omega] at hu
        exact hu
    · rintro σ H2 ⟨o3, o4, ws, rfl, s3, hp2, hw⟩
      rw [show ((h.n : Nat) : Int).toNat = h.n by omega] at hw
      exact ⟨_, rfl, k H2 p ws (SameQ.same s1 hp0 s3) hp0 hp2 (pr_imp hw fun _ _ z => z.at_)⟩
end
end My


end
section
set_option Elab.async false
set_option linter.all false
set_option maxRecDepth 100000
set_option maxHeartbeats 1000000
namespace My
open PySem PySem.Spec PyProof.Rows L2
open Kri4 (times turned turnedSet)
open Kri8 (House)
open Ord (lev foundM fromM ext1)
abbrev sFrom : Stmt := top 23
def LQ (H0 : Hp) (q : Addr) (H : Hp) (r : Addr) (l : List Nat) : Prop := H r = some (.lst (l.map nV)) ∧ r ≠ q ∧ H0 r = none
theorem LQ.keep {H0 : Hp} {q : Addr} {H H' : Hp} {r : Addr} {l : List Nat} (s : SameQ q H H') (h : LQ H0 q H r l) : LQ H0 q H' r l := ⟨s _ _ h.1 h.2.1, h.2⟩
def LR (H0 : Hp) (p q : Addr) (H : Hp) (r : Addr) (l : List Nat) : Prop := H r = some (.lst (l.map nV)) ∧ r ≠ p ∧ r ≠ q ∧ H0 r = none
theorem LR.keep {H0 : Hp} {p q : Addr} {H H' : Hp} {r : Addr} {l : List Nat} (s : SameQ p H H') (h : LR H0 p q H r l) : LR H0 p q H' r l := ⟨s _ _ h.1 h.2.1, h.2⟩
def nFrom : List Str := ["table", "first", "found", "begun", "longer", "quantities", "quantity", "row"]
section
variable {P : Program} {w : World} {K : PySem.W.Frag} {mg : Str → Option Value} {base : Heap} {f C : Addr} {fd : FuncData}
theorem scFrom : FnScope nFrom ["table", "first"] (defScope sFrom) := ⟨rfl, rfl, rfl, by decide +kernel, rfl, by decide +kernel, by decide +kernel⟩
def spFrom (K : PySem.W.Frag) : Sp := fun vs H Q _ => ∃ (a : Addr) (h : House) (u : Nat), vs = [.ref a, nV u] ∧ TabAt K H a h.on ∧ Wf h ∧ u < h.n ∧
  ∀ (H' : Hp) (p : Addr) (ds : List Addr), Same H H' → H p = none → H' p = some (.lst (ds.map V.ref)) → Paired (fun r l => RowL H' r l ∧ H r = none) ds (fromM h u) → Q (.ref p) H'
def FromAt (h : House) (u : Nat) (H : Hp) (a fo : Addr) (k : Nat) (σ : L2.St) (H' : Hp) : Prop := ∃ (be : Addr) (o4 o5 o6 o7 : Option V) (fs bs : List Addr), σ = [some (.ref a), some (nV u), some (.ref fo), some (.ref be), o4, o5, o6, o7] ∧ Same H H' ∧ H fo = none ∧
  H' fo = some (.lst (fs.map V.ref)) ∧ Paired (LQ H fo H') fs (foundM h u k) ∧ H' be = some (.lst (bs.map V.ref)) ∧ be ≠ fo ∧ Paired (LQ H fo H') bs (lev h u k)
def goes (h : House) (r : List Nat) (q : Nat) : Bool := h.at_ q (r.getLastD 0) != 1 && !(r.contains q)
def part (h : House) (r : List Nat) (m : Nat) : List (List Nat) := ((List.range m).filter (goes h r)).map fun q => r ++ [q]
theorem part_all (h : House) (r : List Nat) : part h r h.n = ext1 h r := rfl
theorem part_len (h : House) (r : List Nat) (m : Nat) : (part h r m).length ≤ m := by
  unfold part
  rw [List.length_map]
  exact Nat.le_trans (List.length_filter_le _ _) (by simp)
theorem part_succ (h : House) (r : List Nat) (m : Nat) : part h r (m + 1) = part h r m ++ if goes h r m = true then [r ++ [m]] else [] := by
  unfold part
  rw [List.range_succ, List.filter_append, List.map_append, List.filter_cons]
  cases goes h r m <;> simp
theorem last_map {r : List Nat} (h : r ≠ []) : (r.map nV).getLast? = some (nV (r.getLastD 0)) := by
  rw [List.getLast?_map, List.getLastD_eq_getLast?]
  cases e : r.getLast? with
  | none => exact absurd (List.getLast?_eq_none_iff.mp e) h
  | some x => rfl
theorem c_from (F : Fun K "paths_from" "paths_from" sFrom f fd) (hm : mg "paths_from" = some (.ref f)) (Cs : Cst mg) (B : Blt mg) : Cal P w K mg base 1 "paths_from" ["table", "first"] (spFrom K) := by
  refine ⟨f, fd, F.ok scFrom (fun vs H Q E h => ?_) (fun cdv A outer s H vs Q E hr h => ?_), hm, F.kp, F.binds fun _ _ _ _ _ _ us hl => match us, hl with | [_, _], _ => rfl⟩
  · obtain ⟨_, _, _, rfl, _⟩ := h; rfl
  · obtain ⟨a, h, u, rfl, hA, wf, hu, k⟩ := h
    have hn := wf.n5
    obtain ⟨vs, hvs, hpr⟩ := id hA
    have hvl : vs.length = h.n := by rw [pr_len hpr, wf.len]
    refine ⟨_, pss_cons (ps_set (i := 2) scFrom.nd rfl (Or.inl rfl) (pe_lst (pa_cons (pe_lst (pa_cons (pv 1) pa_nil)) pa_nil)))
      (pss_cons (ps_set (i := 3) scFrom.nd rfl (Or.inl rfl) (pe_lst (pa_cons (pe_lst (pa_cons (pv 1) pa_nil)) pa_nil)))
      (pss_cons (ps_while PassesOwn.never (pt_cmpR op_gt (pe_callB call_len_seq (by rfl) B.len PySem.boot_len (pa_cons (pv 3) pa_nil)) pe_int (nomark _))
        (pss_cons (ps_set (i := 4) scFrom.nd rfl (Or.inl rfl) (pe_lst pa_nil))
        (pss_cons (ps_for PassesOwn.never rfl (pi_list (pv 3)) (pg_name (i := 5) scFrom.nd rfl (Or.inl rfl))
          (pss_one (ps_for PassesOwn.never rfl (pi_enum rfl B.enum (pa_cons (pv 0) pa_nil)) (pg_tup rfl (pgs_cons (pg_name (i := 6) scFrom.nd rfl (Or.inl rfl)) (pgs_cons (pg_name (i := 7) scFrom.nd rfl (Or.inl rfl)) pgs_nil)))
            (pss_one (ps_if (PW.pt (pw_and (pt_cmpR op_ne (pe_ix ix_list (pv 7) (pe_ix ix_list (pv 5) (pe_un un_neg pe_int) (fun _ _ => rfl)) (fun _ _ => rfl)) (pgc rfl Cs.non) (nomark _)) (pw_and1 (pt_cmpR op_notIn_seq (pv 6) (pv 5) (by with_unfolding_all rfl)))))
              (pss_one (ps_expr (pe_bm PySem.F.plainAttrs_list PySem.F.slot_list_append PySem.F.type_list_append mt_append (pv 4) (pa_cons (pe_op op_cat (pv 5) (pe_lst (pa_cons (pv 6) pa_nil))) pa_nil)))) pss_nil)))))
        (pss_cons (ps_expr (pe_bm PySem.F.plainAttrs_list PySem.F.slot_list_extend PySem.F.type_list_extend mt_extend (pv 2) (pa_cons (pv 4) pa_nil)))
        (pss_one (ps_set (i := 3) scFrom.nd rfl (Or.inl rfl) (pv 4)))))))
      (pss_one (ps_ret (pe_callB (cr_sortedL hr.units) (by rfl) B.sorted (by decide +kernel) (pa_cons (pv 2) pa_nil)))))), ?_⟩
    refine ⟨_, rfl, one_le, fun i1 hi1 => ⟨one_le, fun fo hfo => ⟨_, rfl, one_le, fun i2 hi2 => ⟨one_le, fun be hbe => ?_⟩⟩⟩⟩
    have s1 : Same H (upd H i1 (.lst [nV u])) := (Same.refl H).upd hi1
    have hfo0 := s1.free hfo
    have s2 := s1.upd (o := .lst [.ref i1]) hfo0
    have s3 := s2.upd (o := .lst [nV u]) (s2.free hi2)
    have s4 := s3.upd (o := .lst [.ref i2]) (s3.free hbe)
    have n1f : i1 ≠ fo := ne_of_none upd_same hfo
    have x1 : upd (upd H i1 (.lst [nV u])) fo (.lst [.ref i1]) i1 = some (.lst [nV u]) := by rw [upd_ne n1f]; exact upd_same
    have x2 : upd (upd H i1 (.lst [nV u])) fo (.lst [.ref i1]) fo = some (.lst [.ref i1]) := upd_same
    have n2f : i2 ≠ fo := fun z => by rw [z, x2] at hi2; cases hi2
    have n21 : i2 ≠ i1 := fun z => by rw [z, x1] at hi2; cases hi2
    have nbf : be ≠ fo := fun z => by rw [z, upd_ne n2f.symm, x2] at hbe; cases hbe
    have nb1 : be ≠ i1 := fun z => by rw [z, upd_ne n21.symm, x1] at hbe; cases hbe
    have nb2 : be ≠ i2 := fun z => by rw [z, upd_same] at hbe; cases hbe
    refine ⟨fun m σ H' => ∃ kk, kk ≤ h.n ∧ m = h.n - kk ∧ FromAt h u H a fo kk σ H', ⟨h.n, 0, Nat.zero_le _, rfl, be, none, none, none, none, [i1], [i2], rfl, s4, hfo0, ?_, .cons ⟨?_, n1f, hi1⟩ .nil, upd_same, nbf, .cons ⟨?_, n2f, s2.free hi2⟩ .nil⟩, ?_⟩
    · rw [upd_ne nbf.symm, upd_ne n2f.symm]; exact x2
    · rw [upd_ne nb1.symm, upd_ne n21.symm]; exact x1
    · rw [upd_ne nb2.symm]; exact upd_same
    rintro m σ H1 ⟨kk, hkk, rfl, be, o4, o5, o6, o7, fs, bs, rfl, t1, hfo0, hF, hFp, hB, nbf, hBp⟩
    refine ⟨_, rfl, be, _, rfl, .inl (SqL.of hB), _, _, rfl, rfl, _, rfl, ?_⟩
    have hbl := pr_len hBp
    rw [List.length_map]
    by_cases hz : lev h u kk = []
    · rw [hz] at hbl
      rw [decide_eq_false (by rw [hbl]; decide)]
      have hfl := pr_len hFp
      have hf5 := Ord.found_len hn u (k := kk) (by omega)
      refine iteF ⟨_, rfl, fun r l => RowL H1 r l ∧ H r = none, fo, fs, foundM h u kk, rfl, SqL.of hF, fun _ _ z => SqL.of z.1, pr_imp hFp fun _ _ z => ⟨z.1, z.2.2⟩, fun l hl => ?_, Ord.found_nodup hu kk, by omega, fun ds ms p hd hp hs hp0 => ?_⟩
      · have hsm := (Ord.found_any hu hl).1
        have := Ord.simple_len hsm
        exact ⟨by omega, fun x hx => by have := hsm.2.2 x hx; omega⟩
      · have e := Ord.from_of hu hz hp hs
        have s5 : Same H1 (upd H1 p (.lst (ds.map V.ref))) := (Same.refl H1).upd hp0
        refine k _ p ds (t1.trans s5) (t1.free hp0) upd_same ?_
        rw [← e]
        exact pr_imp hd fun _ _ z => ⟨s5 _ _ z.1, z.2⟩
    · have hk1 := Ord.lev_few hu hz
      have hbpos : 0 < bs.length := by rw [hbl]; exact List.length_pos_iff.mpr hz
      rw [decide_eq_true (show (0 : Int) < (bs.length : Int) by omega)]
      refine iteT ⟨FromAt h u H a fo (kk + 1), fun σ' H' z => ⟨h.n - (kk + 1), by omega, kk + 1, hk1, rfl, z⟩, ?_⟩
      refine ⟨Nat.zero_le _, fun lo hlo => ?_⟩
      have t2 : Same H1 (upd H1 lo (.lst [])) := (Same.refl H1).upd hlo
      have nfl : fo ≠ lo := ne_of_none hF hlo
      have nbl : be ≠ lo := ne_of_none hB hlo
      have llen := Ord.lev_len hn u kk
      have p5 : 5 ^ kk ≤ 3125 := Nat.le_trans (Nat.pow_le_pow_right (by decide) (show kk ≤ 5 by omega)) (by decide)
      have hBq : Paired (LR H lo fo H1) bs (lev h u kk) := by
        refine pr_imp hBp fun r l z => ⟨z.1, ne_of_none z.1 hlo, z.2⟩
      have tH : ∀ {H' : Hp}, SameQ lo H1 H' → Same H H' := fun s => SameQ.same t1 (t1.free hlo) s
      refine ⟨_, rfl, be, rfl, ⟨_, SqL.of (t2 _ _ hB)⟩, for_list (K := K) (a := be) (xs := bs.map V.ref) (fun j σ H' => ∃ (ls : List Addr) (o5 o6 o7 : Option V), σ = [some (.ref a), some (nV u), some (.ref fo), some (.ref be), some (.ref lo), o5, o6, o7] ∧ SameQ lo H1 H' ∧ H' lo = some (.lst (ls.map V.ref)) ∧ Paired (LR H lo fo H') ls (((lev h u kk).take j).flatMap (ext1 h)))
        ⟨[], o5, o6, o7, rfl, SameQ.of t2, upd_same, .nil⟩ (fun j σ H' _ ⟨_, _, _, _, _, s5, _⟩ => SqL.of (s5 _ _ hB nbl)) ?_ ?_⟩
      · rintro j x σ H2 hj ⟨ls, o5, o6, o7, rfl, s5, hl2, hlp⟩
        obtain ⟨ra, hra, rfl⟩ := map_at hj
        obtain ⟨r, hrj, hr1⟩ := pr_get' hBq hra
        have hrm := (Ord.lev_mem h hu kk r).mp (List.mem_of_getElem? hrj)
        have hr2 := hr1.keep s5
        have hll : ls.length ≤ 3125 * 5 := by
          rw [pr_len hlp]
          refine Nat.le_trans (Ord.flat_len_le (n := 5) _ fun y _ => Nat.le_trans (Ord.ext1_len h y) hn) (Nat.mul_le_mul_right _ ?_)
          rw [List.length_take]; omega
        refine ⟨_, rfl, a, vs, rfl, (tH s5).seq hvs, for_enum (K := K) (a := a) (xs := vs) (fun m σ H' => ∃ (ks : List Addr) (o6 o7 : Option V), σ = [some (.ref a), some (nV u), some (.ref fo), some (.ref be), some (.ref lo), some (.ref ra), o6, o7] ∧ SameQ lo H1 H' ∧ H' lo = some (.lst (ks.map V.ref)) ∧ Paired (LR H lo fo H') ks (((lev h u kk).take j).flatMap (ext1 h) ++ part h r m))
          ⟨ls, o6, o7, rfl, s5, hl2, by rw [show part h r 0 = [] from rfl, List.append_nil]; exact hlp⟩ (fun m σ H' _ ⟨_, _, _, _, s6, _⟩ => (tH s6).seq hvs) ?_ ?_⟩
        · rintro m x σ H3 tp hm ⟨ks, o6, o7, rfl, s6, hl3, hkp⟩ htp
          obtain ⟨row, hrow, rw_, rfl, hrw⟩ := pr_get' hpr hm
          have hmn : m < h.n := by rw [← hvl]; exact (List.getElem?_eq_some_iff.mp hm).1
          have hrl := (wf.sq row (List.mem_of_getElem? hrow)).1
          have s7 : Same H3 (upd H3 tp (.tup [.int (m : Nat), .ref rw_])) := (Same.refl H3).upd htp
          have hr3 := (hr1.keep s6).keep (SameQ.of s7)
          have hlast : r.getLastD 0 < h.n := by
            have := Ord.simple_len hrm.2.1
            refine hrm.2.1.2.2 _ ?_
            rw [List.getLastD_eq_getLast?]
            cases e : r.getLast? with
            | none => exact absurd (List.getLast?_eq_none_iff.mp e) hrm.2.1.1
            | some y => exact List.mem_of_getLast? e
          have hcell : (row.map nV)[r.getLastD 0]? = some (nV (h.at_ m (r.getLastD 0))) := by
            have e : row[r.getLastD 0]? = some row[r.getLastD 0] := List.getElem?_eq_getElem (by omega)
            rw [List.getElem?_map, at_row wf hmn hrow, List.getD_eq_getElem?_getD, e]; rfl
          have hkl : ks.length ≤ 3125 * 5 + 5 := by
            rw [pr_len hkp, List.length_append]
            have h1 := part_len h r m
            have h2 := pr_len hlp
            omega
          refine ⟨tp, _, rfl, SqT.of upd_same, rfl, _, _, rfl, _, _, rfl, rfl, ?_⟩
          refine ⟨_, rfl, _, rfl, _, rfl, ra, _, _, _, rfl, rfl, SqL.of hr3.1, at_last (last_map hrm.2.1.1), rw_, _, _, _, rfl, rfl, s7.seq ((tH s6).seq hrw), atI_nat hcell, rfl, _, rfl, ?_⟩
          rw [ne_one]
          have skip : goes h r m = false → Paired (LR H lo fo (upd H3 tp (.tup [.int (m : Nat), .ref rw_]))) ks (((lev h u kk).take j).flatMap (ext1 h) ++ part h r (m + 1)) := fun e => by
            rw [part_succ, e, if_neg Bool.false_ne_true, List.append_nil]
            exact pr_imp hkp fun _ _ z => z.keep (SameQ.of s7)
          cases hc : (h.at_ m (r.getLastD 0) != 1) with
          | false =>
            refine iteF (iteF ⟨ks, _, _, rfl, s6.trans (SameQ.of s7), s7 _ _ hl3, skip ?_⟩)
            unfold goes; rw [hc]; rfl
          | true =>
            refine iteT ⟨_, rfl, _, rfl, ra, r.map nV, rfl, .inl (SqL.of hr3.1), rfl, all_flat _, _, rfl, ?_⟩
            rw [show (if true = true then !inV (V.int (m : Nat)) (r.map nV) else inV (V.int (m : Nat)) (r.map nV)) = !inV (nV m) (r.map nV) from rfl, inV_nat]
            have hcd : (r.contains m) = decide (m ∈ r) := by rw [List.contains_eq_mem]
            by_cases hm1 : m ∈ r
            · rw [decide_eq_true hm1]
              refine iteF ⟨ks, _, _, rfl, s6.trans (SameQ.of s7), s7 _ _ hl3, skip ?_⟩
              unfold goes; rw [hcd, decide_eq_true hm1]; simp
            · rw [decide_eq_false hm1]
              have hgo : goes h r m = true := by unfold goes; rw [hcd, decide_eq_false hm1, hc]; rfl
              refine iteT ⟨_, rfl, .inl ⟨rfl, _, SqL.of (s7 _ _ hl3)⟩, _, rfl, _, rfl, one_le, fun p5 h5 => ?_⟩
              have s8 := s7.upd (o := .lst [.int (m : Nat)]) (s7.free h5)
              have hr8 := s8 _ _ (hr1.keep s6).1
              have hr5 : r.length ≤ 5 := Nat.le_trans (Ord.simple_len hrm.2.1) hn
              refine ⟨ra, p5, _, _, rfl, rfl, hr8, upd_same, Nat.le_of_lt (small (by rw [List.length_map]; simp; omega)), fun p6 h6 => ?_⟩
              have s9 := s8.upd (o := .lst (r.map nV ++ [.int (m : Nat)])) (s8.free h6)
              have nl6 : p6 ≠ lo := fun z => by rw [z, s8 _ _ hl3] at h6; cases h6
              have nf6 : p6 ≠ fo := fun z => by rw [z, s8 _ _ (s6 _ _ hF nfl)] at h6; cases h6
              refine ⟨lo, ks.map V.ref, _, rfl, rfl, s9 _ _ hl3, small (by rw [List.length_map]; omega), ⟨ks ++ [p6], _, _, rfl, (s6.trans (SameQ.of s9)).trans SameQ.put, ?_, ?_⟩⟩
              · rw [upd_same, List.map_append]; rfl
              · rw [part_succ, hgo, if_pos rfl, ← List.append_assoc]
                refine pr_app (pr_imp hkp fun _ _ z => z.keep ((SameQ.of s9).trans SameQ.put)) (.cons ⟨?_, nl6, nf6, (tH s6).free (s8.free h6)⟩ .nil)
                rw [upd_ne nl6, upd_same, List.map_append]; rfl
        · rintro σ H3 ⟨ks, o6, o7, rfl, s6, hl3, hkp⟩
          refine ⟨ks, _, _, _, rfl, s6, hl3, ?_⟩
          rw [hvl, part_all] at hkp
          rw [take_snoc hrj, List.flatMap_append, List.flatMap_cons, List.flatMap_nil, List.append_nil]
          exact hkp
      · rintro σ H2 ⟨ls, o5, o6, o7, rfl, s5, hl2, hlp⟩
        rw [List.length_map, hbl, List.take_length] at hlp
        have hlp : Paired (LR H lo fo H2) ls (lev h u (kk + 1)) := hlp
        have hll := pr_len hlp
        have hl5 := Ord.lev_len hn u (kk + 1)
        have p6 : 5 ^ (kk + 1) ≤ 3125 := Nat.le_trans (Nat.pow_le_pow_right (by decide) (show kk + 1 ≤ 5 by omega)) (by decide)
        have hfl := pr_len hFp
        have hf5 := Ord.found_len hn u (k := kk) (by omega)
        have hF2 := s5 _ _ hF nfl
        refine ⟨_, rfl, .inl ⟨rfl, _, SqL.of hF2⟩, _, rfl, fo, lo, fs.map V.ref, ls.map V.ref, rfl, rfl, hF2, hl2, Nat.le_of_lt (small (by rw [List.length_map, List.length_map]; omega)), ?_⟩
        refine ⟨_, rfl, lo, _, _, _, _, fs ++ ls, ls, rfl, SameQ.same (tH s5) hfo0 SameQ.put, hfo0, by rw [upd_same, List.map_append], ?_, by rw [upd_ne nfl.symm]; exact hl2, nfl.symm, ?_⟩
        · rw [Ord.found_succ]
          have hFq : Paired (LQ H fo H2) fs (foundM h u kk) := pr_imp hFp fun r l z => ⟨s5 _ _ z.1 (ne_of_none z.1 hlo), z.2⟩
          exact pr_app (pr_imp hFq fun _ _ z => z.keep SameQ.put) (pr_imp hlp fun r l z => LQ.keep SameQ.put ⟨z.1, z.2.2⟩)
        · exact pr_imp hlp fun r l z => LQ.keep SameQ.put ⟨z.1, z.2.2⟩
end
end My


end
section
set_option Elab.async false
set_option linter.all false
set_option maxRecDepth 100000
set_option maxHeartbeats 1000000
namespace My
open PySem PySem.Spec PyProof.Rows L2
open Kri4 (times turned turnedSet)
open Kri8 (House)
open Ord (fromM)
abbrev sWalk : Stmt := top 24
abbrev sSP : Stmt := top 25
theorem times_comm {a b : Nat} (ha : a ≤ 2) (hb : b ≤ 2) : times a b = times b a := by
  rcases Mth.sgn3 ha with rfl | rfl | rfl <;> rcases Mth.sgn3 hb with rfl | rfl | rfl <;> decide
theorem times_assoc {a b c : Nat} (ha : a ≤ 2) (hb : b ≤ 2) (hc : c ≤ 2) : times (times a b) c = times a (times b c) := by
  rcases Mth.sgn3 ha with rfl | rfl | rfl <;> rcases Mth.sgn3 hb with rfl | rfl | rfl <;> rcases Mth.sgn3 hc with rfl | rfl | rfl <;> decide
theorem sign_le (h : House) : ∀ r : List Nat, h.sign r ≤ 2
  | [] => Nat.le_refl _
  | [_] => Nat.le_refl _
  | u :: v :: t => Mth.times_le _ _
theorem sign_take1 (h : House) : ∀ {r : List Nat}, r ≠ [] → h.sign (r.take (0 + 1)) = 2
  | [], hr => absurd rfl hr
  | _ :: _, _ => rfl
theorem last_lt {n : Nat} {r : List Nat} (hr : r ≠ []) (hx : ∀ x ∈ r, x < n) : r.getLastD 0 < n := by
  refine hx _ ?_
  rw [List.getLastD_eq_getLast?]
  cases e : r.getLast? with
  | none => exact absurd (List.getLast?_eq_none_iff.mp e) hr
  | some y => exact List.mem_of_getLast? e
theorem sign_snoc {h : House} (wf : Wf h) {q : Nat} (hq : q < h.n) : ∀ r : List Nat, r ≠ [] → (∀ x ∈ r, x < h.n) → h.sign (r ++ [q]) = times (h.at_ q (r.getLastD 0)) (h.sign r)
  | [], hr, _ => absurd rfl hr
  | [u], _, _ => rfl
  | u :: v :: t, _, hx => by
    have ih := sign_snoc wf hq (v :: t) (by simp) fun x hx' => hx x (by simp [hx'])
    have hl : (v :: t).getLastD 0 < h.n := last_lt (by simp) fun x hx' => hx x (by simp [hx'])
    have e : (u :: v :: t).getLastD 0 = (v :: t).getLastD 0 := rfl
    show times (h.at_ v u) (h.sign (v :: t ++ [q])) = times (h.at_ q ((u :: v :: t).getLastD 0)) (times (h.at_ v u) (h.sign (v :: t)))
    have h1 := at_le wf v u (hx v (by simp)) (hx u (by simp))
    have h2 := at_le wf q ((v :: t).getLastD 0) hq hl
    have h3 := sign_le h (v :: t)
    rw [ih, e, ← times_assoc h1 h2 h3, ← times_assoc h2 h1 h3, times_comm h1 h2]
section
variable {P : Program} {w : World} {K : PySem.W.Frag} {mg : Str → Option Value} {base : Heap} {f C : Addr} {fd : FuncData}
def nWalk : List Str := ["table", "quantities", "sign", "acting", "upon"]
theorem scWalk : FnScope nWalk ["table", "quantities"] (defScope sWalk) := ⟨rfl, rfl, rfl, by decide +kernel, rfl, by decide +kernel, by decide +kernel⟩
def spWalk (K : PySem.W.Frag) : Sp := fun vs H Q _ => ∃ (a q : Addr) (h : House) (r : List Nat), vs = [.ref a, .ref q] ∧ TabAt K H a h.on ∧ Wf h ∧ SqL K H q (r.map nV) ∧ r ≠ [] ∧ r.length ≤ 1000 ∧ (∀ x ∈ r, x < h.n) ∧
  ∀ H' : Hp, Same H H' → Q (nV (h.sign r)) H'
theorem c_walk (F : Fun K "walk_sign" "walk_sign" sWalk f fd) (hm : mg "walk_sign" = some (.ref f)) (Cs : Cst mg) (B : Blt mg) (cT : Cal P w K mg base 1 "times" ["one", "other"] spTimes) : Cal P w K mg base 2 "walk_sign" ["table", "quantities"] (spWalk K) := by
  refine ⟨f, fd, F.ok scWalk (fun vs H Q E h => ?_) (fun cdv A outer s H vs Q E hr h => ?_), hm, F.kp, F.binds fun _ _ _ _ _ _ us hl => match us, hl with | [_, _], _ => rfl⟩
  · obtain ⟨_, _, _, _, rfl, _⟩ := h; rfl
  · obtain ⟨a, q, h, r, rfl, hA, wf, hq, hr0, hrl, hrx, k⟩ := h
    refine ⟨_, pss_cons (ps_set (i := 2) scWalk.nd rfl (Or.inl rfl) (pgc rfl Cs.above))
      (pss_cons (ps_for PassesOwn.never rfl (pi_zip rfl B.zip (pa_cons (pv 1) (pa_cons (pe_slice sl_list (pv 1) (po_some pe_int) po_none) pa_nil))) (pg_tup rfl (pgs_cons (pg_name (i := 3) scWalk.nd rfl (Or.inl rfl)) (pgs_cons (pg_name (i := 4) scWalk.nd rfl (Or.inl rfl)) pgs_nil)))
        (pss_one (ps_set (i := 2) scWalk.nd rfl (Or.inl rfl) (pcall cT hr (Nat.le_refl _) rfl (pa_cons (pv 2) (pa_cons (pe_ix ix_list (pe_ix ix_list (pv 0) (pv 4) (fun _ _ => rfl)) (pv 3) (fun _ _ => rfl)) pa_nil))))))
      (pss_one (ps_ret (pv 2)))), ?_⟩
    have hl1 : 1 ≤ r.length := List.length_pos_iff.mpr hr0
    have ecut : cutV (r.map nV) (some 1) none = (r.drop 1).map nV := by
      rw [show (1 : Int) = ((1 : Nat) : Int) from rfl, cut_from _ 1 (by rw [List.length_map]; exact hl1), List.map_drop]
    refine ⟨_, rfl, _, rfl, _, rfl, q, _, rfl, hq, fun p1 h1 => ?_⟩
    have s1 : Same H (upd H p1 (.lst (cutV (r.map nV) (some 1) none))) := (Same.refl H).upd h1
    have hp1 : SqL K (upd H p1 (.lst (cutV (r.map nV) (some 1) none))) p1 ((r.drop 1).map nV) := SqL.of (by rw [upd_same, ecut])
    generalize upd H p1 (.lst (cutV (r.map nV) (some 1) none)) = H1 at s1 hp1
    refine ⟨q, p1, _, _, rfl, s1.seq hq, hp1, for_zip (K := K) (xs := r.map nV) (ys := (r.drop 1).map nV) (fun i σ H' => ∃ o3 o4 : Option V, σ = [some (.ref a), some (.ref q), some (nV (h.sign (r.take (i + 1)))), o3, o4] ∧ Same H1 H') ⟨none, none, ?_, Same.refl _⟩ (fun i σ H' _ ⟨_, _, _, s2⟩ => ⟨s2.seq (s1.seq hq), s2.seq hp1⟩) ?_ ?_⟩
    · rw [sign_take1 h hr0]; rfl
    · rintro i x y σ H2 T hx hy ⟨o3, o4, rfl, s2⟩ hT
      obtain ⟨u, hu, rfl⟩ := map_at hx
      obtain ⟨v, hv, rfl⟩ := map_at hy
      rw [List.getElem?_drop, Nat.add_comm 1 i] at hv
      have hun := hrx u (List.mem_of_getElem? hu)
      have hvn := hrx v (List.mem_of_getElem? hv)
      have s3 : Same H2 (upd H2 T (.tup [nV u, nV v])) := (Same.refl H2).upd hT
      have s13 := (s1.trans s2).trans s3
      obtain ⟨vs, ra, row, c1, c2, c3, c4, _⟩ := tab_cell (hA.same s13) wf hvn hun
      refine ⟨T, _, rfl, SqT.of upd_same, rfl, _, _, rfl, _, _, rfl, rfl, ?_⟩
      refine ⟨_, rfl, _, rfl, _, rfl, a, vs, _, _, rfl, rfl, c1, atI_nat c2, _, rfl, ra, _, _, _, rfl, rfl, c3, atI_nat c4, _, _, sign_le h _, at_le wf v u hvn hun, rfl, ⟨some (nV u), some (nV v), ?_, s2.trans s3⟩⟩
      have hne : r.take (i + 1) ≠ [] := fun z => by
        have := congrArg List.length z
        rw [List.length_take, List.length_nil] at this
        have := (List.getElem?_eq_some_iff.mp hu).1
        omega
      have e1 : (r.take (i + 1)).getLastD 0 = u := by rw [take_snoc hu]; exact Ord.last_snoc _ _ _
      rw [take_snoc hv, sign_snoc wf hvn _ hne (fun x hx => hrx x (List.mem_of_mem_take hx)), e1, times_comm (at_le wf v u hvn hun) (sign_le h _)]
      rfl
    · rintro σ H2 ⟨o3, o4, rfl, s2⟩
      refine ⟨_, rfl, ?_⟩
      have e : r.take (min (r.map nV).length ((r.drop 1).map nV).length + 1) = r := by
        rw [List.length_map, List.length_map, List.length_drop]
        exact List.take_of_length_le (by omega)
      rw [e]
      exact k H2 (s1.trans s2)
def WayAt (K : PySem.W.Frag) (H : Hp) (v : V) (x : Nat × List Nat) : Prop := ∃ t ad, v = .ref t ∧ H t = some (.tup [nV x.1, .ref ad]) ∧ H ad = some (.lst (x.2.map nV))
theorem WayAt.same {K : PySem.W.Frag} {H H' : Hp} {v : V} {x : Nat × List Nat} (s : Same H H') (h : WayAt K H v x) : WayAt K H' v x := let ⟨t, ad, e, h1, h2⟩ := h; ⟨t, ad, e, s _ _ h1, s _ _ h2⟩
def WaysAt (K : PySem.W.Frag) (H : Hp) (p : Addr) (xs : List (Nat × List Nat)) : Prop := ∃ ws, SqL K H p ws ∧ Paired (WayAt K H) ws xs
def WayF (K : PySem.W.Frag) (H0 : Hp) (q : Addr) (H : Hp) (v : V) (x : Nat × List Nat) : Prop := ∃ t ad, v = .ref t ∧ H t = some (.tup [nV x.1, .ref ad]) ∧ t ≠ q ∧ H0 ad = some (.lst (x.2.map nV))
theorem WayF.keep {K : PySem.W.Frag} {H0 : Hp} {q : Addr} {H H' : Hp} {v : V} {x : Nat × List Nat} (s : SameQ q H H') (h : WayF K H0 q H v x) : WayF K H0 q H' v x := let ⟨t, ad, e, h1, n, h2⟩ := h; ⟨t, ad, e, s _ _ h1 n, n, h2⟩
theorem WayF.at_ {K : PySem.W.Frag} {H0 : Hp} {q : Addr} {H : Hp} {v : V} {x : Nat × List Nat} (s : Same H0 H) (h : WayF K H0 q H v x) : WayAt K H v x := let ⟨t, ad, e, h1, n, h2⟩ := h; ⟨t, ad, e, h1, s _ _ h2⟩
theorem len_le2 {α : Type} [DecidableEq α] : ∀ (l m : List α), l.Nodup → (∀ x ∈ l, x ∈ m) → l.length ≤ m.length
  | [], m, _, _ => Nat.zero_le _
  | x :: l, m, hn, hs => by
    have hc := List.nodup_cons.mp hn
    have hx := hs x (by simp)
    have ih := len_le2 l (m.erase x) hc.2 fun y hy => (List.mem_erase_of_ne (fun e => hc.1 (by rw [← e]; exact hy))).mpr (hs y (by simp [hy]))
    rw [List.length_erase_of_mem hx] at ih
    have : 0 < m.length := List.length_pos_of_mem hx
    rw [List.length_cons]; omega
def RowV (H : Hp) (v : V) (row : List Nat) : Prop := ∃ r, v = .ref r ∧ H r = some (.lst (row.map nV))
theorem pr_mapV {H : Hp} : ∀ {as : List Addr} {rows : List (List Nat)}, Paired (RowL H) as rows → Paired (RowV H) (as.map V.ref) rows
  | _, _, .nil => .nil
  | _, _, .cons r t => .cons ⟨_, rfl, r⟩ (pr_mapV t)
def pathsM (h : House) (u v : Nat) : List (Nat × List Nat) := (h.paths u v).map fun r => (h.sign r, r)
theorem from_filter (h : House) (u v : Nat) : (fromM h u).filter (fun r => r.getLastD 0 == v) = h.paths u v := by
  unfold fromM House.paths
  rw [List.filter_filter]
  refine List.filter_congr fun r _ => ?_
  cases r.headD 0 == u <;> cases r.getLastD 0 == v <;> cases h.chain r <;> rfl
def nSP : List Str := ["table", "first", "last", "found", "quantities"]
theorem scSP : FnScope nSP ["table", "first", "last"] (defScope sSP) := ⟨rfl, rfl, rfl, by decide +kernel, rfl, by decide +kernel, by decide +kernel⟩
def spSP (K : PySem.W.Frag) : Sp := fun vs H Q _ => ∃ (a : Addr) (h : House) (u v : Nat), vs = [.ref a, nV u, nV v] ∧ TabAt K H a h.on ∧ Wf h ∧ u < h.n ∧ v < h.n ∧
  ∀ (H' : Hp) (p : Addr), Same H H' → WaysAt K H' p (pathsM h u v) → Q (.ref p) H'
theorem from_few {h : House} (hn : h.n ≤ 5) (u : Nat) (hu : u < h.n) : (fromM h u).length ≤ 18750 := by
  have e : Ord.lev h u h.n = [] := by
    by_cases c : Ord.lev h u h.n = []
    · exact c
    · have := Ord.lev_few hu c; omega
  refine Nat.le_trans (len_le2 _ _ ?_ ?_) (Ord.found_len hn u hn)
  · exact (Ord.from_sorted h u).imp fun {a b} z e => by subst e; exact Ord.lx_irrefl _ z
  · intro r hr
    exact (Ord.found_mem hu e r).mpr ((Ord.from_mem h u r).mp hr)
theorem nat_eq (x y : Nat) : decide (nV x = nV y) = (x == y) := by
  by_cases e : x = y
  · subst e; simp
  · rw [show (x == y) = false by simpa using e, decide_eq_false]
    intro z; injection z with z; omega
theorem c_sp (F : Fun K "signed_paths" "signed_paths" sSP f fd) (hm : mg "signed_paths" = some (.ref f)) (cF : Cal P w K mg base 1 "paths_from" ["table", "first"] (spFrom K)) (cW : Cal P w K mg base 2 "walk_sign" ["table", "quantities"] (spWalk K)) : Cal P w K mg base 3 "signed_paths" ["table", "first", "last"] (spSP K) := by
  refine ⟨f, fd, F.ok scSP (fun vs H Q E h => ?_) (fun cdv A outer s H vs Q E hr h => ?_), hm, F.kp, F.binds fun _ _ _ _ _ _ us hl => match us, hl with | [_, _, _], _ => rfl⟩
  · obtain ⟨_, _, _, _, rfl, _⟩ := h; rfl
  · obtain ⟨a, h, u, v, rfl, hA, wf, hu, hv, k⟩ := h
    have hn := wf.n5
    have hfew := from_few hn u hu
    refine ⟨_, pss_cons (ps_setLc (tt := tTest (tOp rEq (tOp (rIxL K) (tVar 4) (tUn (rU fun i => .int (-i)) (tC (.int 1)))) (tVar 2))) (i := 3) rfl scSP.nd rfl rfl (sw_true rfl rfl rfl (by decide +kernel)) (pi_list (pcall cF hr (by decide) rfl (pa_cons (pv 0) (pa_cons (pv 1) pa_nil)))) (blkOk_by (N := nSP) (sc := defScope sSP) (own := [("quantities", 4)]) (by decide +kernel)) (fun _ _ _ _ _ => pg_name (i := 4) scSP.nd rfl (Or.inl rfl) (Or.inr rfl))
        (fun _ _ _ _ _ => pts_one (pt_cmpR op_eq (pe_ix ix_list (pv 4) (pe_un un_neg pe_int) (fun _ _ => rfl)) (pv 2) (nomark _))) (fun _ _ _ _ _ => pv 4))
      (pss_one (ps_ret (pe_lc rfl scSP.nd (pi_list (pv 3)) (blkOk_by (N := nSP) (sc := defScope sSP) (own := [("quantities", 4)]) (by decide +kernel)) (fun _ _ _ _ _ => pg_name (i := 4) scSP.nd rfl (Or.inl rfl) (Or.inr rfl)) (fun _ _ _ _ _ => pts_nil)
        (fun _ _ _ _ _ => pe_tup (pa_cons (pcall cW hr (Nat.le_refl _) rfl (pa_cons (pv 0) (pa_cons (pv 4) pa_nil))) (pa_cons (pv 4) pa_nil)))))), ?_⟩
    refine ⟨_, rfl, _, rfl, a, h, u, rfl, hA, wf, hu, fun H1 p ds s1 hp0 hp1 hp2 => ?_⟩
    obtain ⟨vs, hvs, hpr⟩ : ∃ vs, SqL K H1 p vs ∧ Paired (RowV H1) vs (fromM h u) := ⟨_, SqL.of hp1, pr_mapV (pr_imp hp2 fun _ _ z => z.1)⟩
    have hvl := pr_len hpr
    refine ⟨p, rfl, ⟨_, hvs⟩, fun D hD => lc_list (a := p) (xs := vs) (fun i H' => ∃ ws, H' D = some (.lst ws) ∧ Same H1 H' ∧ Paired (RowV H1) ws (((fromM h u).take i).filter fun r => r.getLastD 0 == v)) ⟨[], upd_same, (Same.refl H1).upd hD, .nil⟩ (fun i H' _ ⟨_, _, s2, _⟩ => s2.seq hvs) (fun i x H' hx hp => ?_) fun H' hp => ?_⟩
    · obtain ⟨ws, hw, s2, hwp⟩ := hp
      obtain ⟨r, hri, ad, rfl, had⟩ := pr_get' hpr hx
      have hrm := (Ord.from_mem h u r).mp (List.mem_of_getElem? hri)
      refine ⟨rfl, _, rfl, _, rfl, ad, _, _, _, rfl, rfl, SqL.of (s2 _ _ had), at_last (last_map hrm.1.1), _, rfl, rfl, _, rfl, ?_⟩
      rw [nat_eq]
      cases hc : (r.getLastD 0 == v) with
      | true =>
        refine iteT ⟨_, rfl, ws, hw, small ?_, ws ++ [.ref ad], upd_same, s2.upd hD, ?_⟩
        · rw [pr_len hwp]
          refine Nat.le_trans (List.length_filter_le _ _) ?_
          rw [List.length_take]; omega
        · rw [take_snoc hri, List.filter_append, List.filter_cons, hc, if_pos rfl, List.filter_nil]
          exact pr_app hwp (.cons ⟨ad, rfl, had⟩ .nil)
      | false =>
        refine iteF ⟨ws, hw, s2, ?_⟩
        rw [take_snoc hri, List.filter_append, List.filter_cons, hc, if_neg Bool.false_ne_true, List.filter_nil, List.append_nil]
        exact hwp
    · obtain ⟨ws, hw, s2, hwp⟩ := hp
      rw [hvl, List.take_length, from_filter] at hwp
      have hwl := pr_len hwp
      have hpl : (h.paths u v).length ≤ 18750 := by
        rw [← from_filter]
        exact Nat.le_trans (List.length_filter_le _ _) hfew
      refine ⟨_, rfl, D, rfl, ⟨_, SqL.of hw⟩, fun D2 hD2 => lc_list (a := D) (xs := ws) (fun i H2 => ∃ us, H2 D2 = some (.lst us) ∧ Same H' H2 ∧ Paired (WayF K H1 D2 H2) us ((pathsM h u v).take i)) ⟨[], upd_same, (Same.refl H').upd hD2, .nil⟩ (fun i H2 _ ⟨_, _, s3, _⟩ => SqL.of (s3 _ _ hw)) (fun i x H2 hx hp => ?_) fun H2 hp => ?_⟩
      · obtain ⟨us, hus, s3, hup⟩ := hp
        obtain ⟨r, hri, ad, rfl, had⟩ := pr_get' hwp hx
        have hrm := (Ord.paths_mem h u v r).mp (List.mem_of_getElem? hri)
        have hr5 := Ord.simple_len hrm.1
        have s13 := s2.trans s3
        refine ⟨rfl, tyes ⟨_, rfl, _, rfl, a, ad, h, r, rfl, hA.same (s1.trans s13), wf, SqL.of (s13 _ _ had), hrm.1.1, by omega, hrm.1.2.2, fun H3 s4 => ⟨_, rfl, by show 2 ≤ sizeLine; decide, fun t ht => ?_⟩⟩⟩
        have s5 := s4.upd (o := .tup [nV (h.sign r), .ref ad]) (s4.free ht)
        have nt : t ≠ D2 := fun z => by rw [z, s4 _ _ hus] at ht; cases ht
        refine ⟨us, s5 _ _ hus, small (by rw [pr_len hup, List.length_take]; unfold pathsM; rw [List.length_map]; omega), us ++ [.ref t], upd_same, SameQ.same (s3.trans s5) hD2 SameQ.put, ?_⟩
        have hpi : (pathsM h u v)[i]? = some (h.sign r, r) := by unfold pathsM; rw [List.getElem?_map, hri]; rfl
        rw [take_snoc hpi]
        refine pr_app (pr_imp hup fun _ _ z => z.keep ((SameQ.of s5).trans SameQ.put)) (.cons ⟨t, ad, rfl, by rw [upd_ne nt]; exact upd_same, nt, had⟩ .nil)
      · obtain ⟨us, hus, s3, hup⟩ := hp
        rw [hwl, show (h.paths u v).length = (pathsM h u v).length by unfold pathsM; rw [List.length_map], List.take_length] at hup
        exact k H2 D2 (s1.trans (s2.trans s3)) ⟨us, SqL.of hus, pr_imp hup fun _ _ z => z.at_ (s2.trans s3)⟩
end
end My


end
section
set_option Elab.async false
set_option linter.all false
set_option maxRecDepth 100000
set_option maxHeartbeats 1000000
namespace My
open PySem PySem.Spec PyProof.Rows L2
open Kri4 (times turned turnedSet)
open Kri8 (House)
open Ord (fromM)
abbrev sSL : Stmt := top 26
def cnd (h : House) (u : Nat) (r : List Nat) : Bool := (r.all fun v => decide (u ≤ v)) && h.at_ u (r.getLastD 0) != 1
def loopsU (h : House) (u : Nat) : List (List Nat) := (fromM h u).filter (cnd h u)
theorem loops_eq (h : House) : (List.range h.n).flatMap (loopsU h) = h.loops := by
  refine Ord.loops_of ?_ fun r => ?_
  · rw [List.pairwise_flatMap]
    refine ⟨fun u _ => (Ord.from_sorted h u).filter _, (Ord.range_lt h.n).imp fun {a b} hab x hx y hy => ?_⟩
    have h1 := (Ord.from_mem h a x).mp (List.mem_filter.mp hx).1
    have h2 := (Ord.from_mem h b y).mp (List.mem_filter.mp hy).1
    match x, h1, y, h2 with
    | u :: s, h1, v :: t, h2 =>
      have e1 : u = a := h1.2.1
      have e2 : v = b := h2.2.1
      exact .inl (by omega)
    | [], h1, _, _ => exact absurd rfl h1.1.1
    | _ :: _, _, [], h2 => exact absurd rfl h2.1.1
  · rw [List.mem_flatMap]
    constructor
    · rintro ⟨u, hu, hr⟩
      obtain ⟨h1, h2⟩ := List.mem_filter.mp hr
      obtain ⟨h3, h4, h5⟩ := (Ord.from_mem h u r).mp h1
      unfold cnd at h2
      rw [Bool.and_eq_true] at h2
      refine ⟨h3, fun v hv => ?_, h5, ?_⟩
      · rw [h4]
        exact of_decide_eq_true (List.all_eq_true.mp h2.1 v hv)
      · rw [h4]; exact h2.2
    · rintro ⟨h1, h2, h3, h4⟩
      have hm : r.headD 0 ∈ r := by
        match r, h1.1 with
        | x :: t, _ => exact List.mem_cons_self ..
      refine ⟨r.headD 0, List.mem_range.mpr (h1.2.2 _ hm), List.mem_filter.mpr ⟨(Ord.from_mem h _ r).mpr ⟨h1, rfl, h3⟩, ?_⟩⟩
      unfold cnd
      rw [Bool.and_eq_true]
      exact ⟨List.all_eq_true.mpr fun v hv => decide_eq_true (h2 v hv), h4⟩
def loopW (h : House) (r : List Nat) : Nat × List Nat := (h.loopSign r, r)
def loopsM (h : House) : List (Nat × List Nat) := h.loops.map (loopW h)
def loopsN (h : House) (u m : Nat) : List (Nat × List Nat) := (((fromM h u).take m).filter (cnd h u)).map (loopW h)
theorem loopsU_few {h : House} (hn : h.n ≤ 5) (u : Nat) (hu : u < h.n) : (loopsU h u).length ≤ 18750 := Nat.le_trans (List.length_filter_le _ _) (from_few hn u hu)
theorem pre_few {h : House} (hn : h.n ≤ 5) {u : Nat} (hu : u ≤ h.n) : (((List.range u).flatMap (loopsU h)).map (loopW h)).length ≤ u * 18750 := by
  rw [List.length_map]
  have := Ord.flat_len_le (f := loopsU h) (n := 18750) (List.range u) fun x hx => loopsU_few hn x (by have := List.mem_range.mp hx; omega)
  rwa [List.length_range] at this
section
variable {P : Program} {w : World} {K : PySem.W.Frag} {mg : Str → Option Value} {base : Heap} {f C : Addr} {fd : FuncData}
def nSL : List Str := ["table", "loops", "first", "quantities"]
theorem scSL : FnScope nSL ["table"] (defScope sSL) := ⟨rfl, rfl, rfl, by decide +kernel, rfl, by decide +kernel, by decide +kernel⟩
def spSL (K : PySem.W.Frag) : Sp := fun vs H Q _ => ∃ (a : Addr) (h : House), vs = [.ref a] ∧ TabAt K H a h.on ∧ Wf h ∧
  ∀ (H' : Hp) (p : Addr), Same H H' → WaysAt K H' p (loopsM h) → Q (.ref p) H'
def WayG (q : Addr) (H : Hp) (v : V) (x : Nat × List Nat) : Prop := ∃ t ad, v = .ref t ∧ H t = some (.tup [nV x.1, .ref ad]) ∧ t ≠ q ∧ H ad = some (.lst (x.2.map nV)) ∧ ad ≠ q
theorem WayG.keep {q : Addr} {H H' : Hp} {v : V} {x : Nat × List Nat} (s : SameQ q H H') (h : WayG q H v x) : WayG q H' v x := let ⟨t, ad, e, h1, n, h2, n2⟩ := h; ⟨t, ad, e, s _ _ h1 n, n, s _ _ h2 n2, n2⟩
theorem WayG.at_ {K : PySem.W.Frag} {q : Addr} {H : Hp} {v : V} {x : Nat × List Nat} (h : WayG q H v x) : WayAt K H v x := let ⟨t, ad, e, h1, _, h2, _⟩ := h; ⟨t, ad, e, h1, h2⟩
theorem min_is {r : List Nat} {u : Nat} {m : Int} (hu : u ∈ r) (h1 : m ∈ r.map fun (x : Nat) => (x : Int)) (h2 : ∀ y ∈ r.map fun (x : Nat) => (x : Int), m ≤ y) : decide (V.int m = nV u) = r.all fun v => decide (u ≤ v) := by
  obtain ⟨x, hx, rfl⟩ := List.mem_map.mp h1
  by_cases e : x = u
  · subst e
    rw [decide_eq_true rfl]
    refine (List.all_eq_true.mpr fun v hv => decide_eq_true ?_).symm
    have := h2 (v : Int) (List.mem_map.mpr ⟨v, hv, rfl⟩)
    omega
  · rw [decide_eq_false (fun z => by injection z with z; omega)]
    cases hc : r.all fun v => decide (u ≤ v) with
    | false => rfl
    | true =>
      have h3 := of_decide_eq_true (List.all_eq_true.mp hc x hx)
      have h4 := h2 (u : Int) (List.mem_map.mpr ⟨u, hu, rfl⟩)
      omega
theorem head_in {r : List Nat} {u : Nat} (hr : r ≠ []) (h : r.headD 0 = u) : u ∈ r := by
  cases r with
  | nil => exact absurd rfl hr
  | cons x t => have : x = u := h; rw [this]; exact List.mem_cons_self ..
theorem c_sl (F : Fun K "signed_loops" "signed_loops" sSL f fd) (hm : mg "signed_loops" = some (.ref f)) (Cs : Cst mg) (B : Blt mg) (cF : Cal P w K mg base 1 "paths_from" ["table", "first"] (spFrom K)) (cW : Cal P w K mg base 2 "walk_sign" ["table", "quantities"] (spWalk K)) : Cal P w K mg base 3 "signed_loops" ["table"] (spSL K) := by
  refine ⟨f, fd, F.ok scSL (fun vs H Q E h => ?_) (fun cdv A outer s H vs Q E hr h => ?_), hm, F.kp, F.binds fun _ _ _ _ _ _ us hl => match us, hl with | [_], _ => rfl⟩
  · obtain ⟨_, _, rfl, _⟩ := h; rfl
  · obtain ⟨a, h, rfl, hA, wf, k⟩ := h
    have hn := wf.n5
    obtain ⟨vs, hvs, hpr⟩ := id hA
    have hvl : vs.length = h.n := by rw [pr_len hpr, wf.len]
    refine ⟨_, pss_cons (ps_set (i := 1) scSL.nd rfl (Or.inl rfl) (pe_lst pa_nil))
      (pss_cons (ps_for PassesOwn.never rfl (pi_range1 rfl B.range (pa_cons (pe_callB call_len_seq (by rfl) B.len PySem.boot_len (pa_cons (pv 0) pa_nil)) pa_nil)) (pg_name (i := 2) scSL.nd rfl (Or.inl rfl))
        (pss_one (ps_for PassesOwn.never rfl (pi_list (pcall cF hr (by decide) rfl (pa_cons (pv 0) (pa_cons (pv 2) pa_nil)))) (pg_name (i := 3) scSL.nd rfl (Or.inl rfl))
          (pss_one (ps_if (PW.pt (pw_and (pt_cmpR op_eq (pe_callB (cr_min rfl) (by rfl) B.min (by decide +kernel) (pa_cons (pv 3) pa_nil)) (pv 2) (nomark _)) (pw_and1 (pt_cmpR op_ne (pe_ix ix_list (pe_ix ix_list (pv 0) (pv 2) (fun _ _ => rfl)) (pe_ix ix_list (pv 3) (pe_un un_neg pe_int) (fun _ _ => rfl)) (fun _ _ => rfl)) (pgc rfl Cs.non) (nomark _)))))
            (pss_one (ps_expr (pe_bm PySem.F.plainAttrs_list PySem.F.slot_list_append PySem.F.type_list_append mt_append (pv 1) (pa_cons (pe_tup (pa_cons (pcall cW hr (Nat.le_refl _) rfl (pa_cons (pv 0) (pa_cons (pe_op op_cat (pv 3) (pe_lst (pa_cons (pv 2) pa_nil))) pa_nil))) (pa_cons (pv 3) pa_nil))) pa_nil)))) pss_nil)))))
      (pss_one (ps_ret (pv 1)))), ?_⟩
    refine ⟨Nat.zero_le _, fun p hp => ?_⟩
    have s1 : Same H (upd H p (.lst [])) := (Same.refl H).upd hp
    have sH : ∀ {H' : Hp}, SameQ p H H' → Same H H' := fun s => SameQ.same (Same.refl H) hp s
    refine ⟨_, rfl, a, vs, rfl, .inl (s1.seq hvs), (h.n : Int), by rw [hvl], by omega, by omega, for_range (fun i σ H' => ∃ (o2 o3 : Option V) (ws : List V), σ = [some (.ref a), some (.ref p), o2, o3] ∧ SameQ p H H' ∧ H' p = some (.lst ws) ∧ Paired (WayG p H') ws (((List.range i).flatMap (loopsU h)).map (loopW h))) ⟨none, none, [], rfl, SameQ.of s1, upd_same, .nil⟩ ?_ ?_⟩
    · rintro u σ H2 hu ⟨o2, o3, ws, rfl, s3, hp2, hw⟩
      have hu : u < h.n := by omega
      rw [Int.zero_add]
      have hwl : ws.length ≤ u * 18750 := by rw [pr_len hw]; exact pre_few hn (by omega)
      refine ⟨_, rfl, _, rfl, a, h, u, rfl, hA.same (sH s3), wf, hu, fun H3 q ds s4 hq0 hq1 hq2 => ?_⟩
      have hp3 := s4 _ _ hp2
      have hds := pr_len hq2
      have hff := from_few hn u hu
      have hqp : q ≠ p := fun z => by rw [z, hp2] at hq0; cases hq0
      refine ⟨q, rfl, ⟨_, SqL.of hq1⟩, for_list (K := K) (a := q) (xs := ds.map V.ref) (fun m σ H' => ∃ (o3 : Option V) (us : List V), σ = [some (.ref a), some (.ref p), some (nV u), o3] ∧ SameQ p H3 H' ∧ H' p = some (.lst us) ∧ Paired (WayG p H') us (((List.range u).flatMap (loopsU h)).map (loopW h) ++ loopsN h u m)) ⟨o3, ws, rfl, fun b o e _ => e, hp3, by rw [show loopsN h u 0 = [] from rfl, List.append_nil]; exact pr_imp hw fun _ _ z => z.keep (SameQ.of s4)⟩ (fun m σ H' _ ⟨_, _, _, s5, _⟩ => SqL.of (s5 _ _ hq1 hqp)) ?_ ?_⟩
      · rintro m x σ H4 hm ⟨o3, us, rfl, s5, hp4, hup⟩
        obtain ⟨ad, had, rfl⟩ := map_at hm
        obtain ⟨r, hri, hrl, had0⟩ := pr_get' hq2 had
        have hrm := (Ord.from_mem h u r).mp (List.mem_of_getElem? hri)
        have hr5 : r.length ≤ 5 := Nat.le_trans (Ord.simple_len hrm.1) hn
        have nad : ad ≠ p := fun z => by rw [z, hp2] at had0; cases had0
        have hr4 : H4 ad = some (.lst (r.map nV)) := s5 _ _ hrl nad
        have sH4 : Same H H4 := sH ((s3.trans (SameQ.of s4)).trans s5)
        have hlast := last_lt hrm.1.1 hrm.1.2.2
        obtain ⟨vs', ra, row, c1, c2, c3, c4, _⟩ := tab_cell (hA.same sH4) wf hu hlast
        have humem : u ∈ r := head_in hrm.1.1 hrm.2.1
        refine ⟨_, rfl, ad, r.map (fun (x : Nat) => (x : Int)), rfl, SqL.of (by rw [hr4, List.map_map]; rfl), by rw [List.length_map]; exact List.length_pos_iff.mpr hrm.1.1, fun mn hm1 hm2 => ⟨_, rfl, rfl, _, rfl, ?_⟩⟩
        rw [min_is humem hm1 hm2]
        have skip : cnd h u r = false → Paired (WayG p H4) us (((List.range u).flatMap (loopsU h)).map (loopW h) ++ loopsN h u (m + 1)) := fun e => by
          unfold loopsN
          rw [take_snoc hri, List.filter_append, List.filter_cons, e, if_neg Bool.false_ne_true, List.filter_nil, List.append_nil]
          exact hup
        cases ha : r.all fun v => decide (u ≤ v) with
        | false =>
          refine iteF (iteF ⟨_, us, rfl, s5, hp4, skip ?_⟩)
          unfold cnd; rw [ha]; rfl
        | true =>
          refine iteT ⟨_, rfl, _, rfl, a, vs', _, _, rfl, rfl, c1, atI_nat c2, _, rfl, _, rfl, ad, _, _, _, rfl, rfl, SqL.of hr4, at_last (last_map hrm.1.1), ra, _, _, _, rfl, rfl, c3, atI_nat c4, rfl, _, rfl, ?_⟩
          rw [ne_one]
          cases hb : (h.at_ u (r.getLastD 0) != 1) with
          | false =>
            refine iteF ⟨_, us, rfl, s5, hp4, skip ?_⟩
            unfold cnd; rw [hb]; simp
          | true =>
            have hc : cnd h u r = true := by unfold cnd; rw [ha, hb]; rfl
            refine iteT ⟨_, rfl, .inl ⟨rfl, _, SqL.of hp4⟩, _, rfl, _, rfl, _, rfl, one_le, fun p5 h5 => ?_⟩
            have s6 : Same H4 (upd H4 p5 (.lst [nV u])) := (Same.refl H4).upd h5
            refine ⟨ad, p5, _, _, rfl, rfl, s6 _ _ hr4, upd_same, Nat.le_of_lt (small (by rw [List.length_map]; simp; omega)), fun p6 h6 => ?_⟩
            have s7 := s6.upd (o := .lst (r.map nV ++ [nV u])) (s6.free h6)
            refine ⟨a, p6, h, r ++ [u], rfl, hA.same (sH4.trans s7), wf, SqL.of (by rw [upd_same, List.map_append]; rfl), by simp, by simp; omega, fun x hx => ?_, fun H5 s8 => ⟨_, rfl, by show 2 ≤ sizeLine; decide, fun t ht => ?_⟩⟩
            · rcases List.mem_append.mp hx with hx | hx
              · exact hrm.1.2.2 x hx
              · rw [List.mem_singleton] at hx; rw [hx]; exact hu
            · have s9 := s7.trans s8
              have s10 := s9.upd (o := .tup [nV (h.sign (r ++ [u])), .ref ad]) (s9.free ht)
              have nt : t ≠ p := fun z => by rw [z, s9 _ _ hp4] at ht; cases ht
              have hul : us.length ≤ u * 18750 + 18750 := by
                rw [pr_len hup, List.length_append]
                have h1 := pre_few (h := h) hn (u := u) (by omega)
                have h2 : (loopsN h u m).length ≤ 18750 := by
                  unfold loopsN
                  rw [List.length_map]
                  refine Nat.le_trans (List.length_filter_le _ _) ?_
                  rw [List.length_take]; omega
                omega
              refine ⟨p, us, _, rfl, rfl, s10 _ _ hp4, small (by omega), ⟨_, us ++ [.ref t], rfl, (s5.trans (SameQ.of s10)).trans SameQ.put, upd_same, ?_⟩⟩
              have e1 : loopsN h u (m + 1) = loopsN h u m ++ [loopW h r] := by
                unfold loopsN
                rw [take_snoc hri, List.filter_append, List.filter_cons, hc, if_pos rfl, List.filter_nil, List.map_append]; rfl
              have e2 : h.sign (r ++ [u]) = h.loopSign r := by
                rw [sign_snoc wf hu r hrm.1.1 hrm.1.2.2]
                unfold House.loopSign
                rw [hrm.2.1]
              rw [e1, ← List.append_assoc]
              refine pr_app (pr_imp hup fun _ _ z => z.keep ((SameQ.of s10).trans SameQ.put)) (.cons ⟨t, ad, rfl, ?_, nt, ?_, nad⟩ .nil)
              · rw [upd_ne nt, upd_same, e2]; rfl
              · rw [upd_ne nad]; exact s10 _ _ hr4
      · rintro σ H4 ⟨o3, us, rfl, s5, hp4, hup⟩
        refine ⟨_, _, us, rfl, (s3.trans (SameQ.of s4)).trans s5, hp4, ?_⟩
        rw [List.range_succ, List.flatMap_append, List.flatMap_cons, List.flatMap_nil, List.append_nil, List.map_append]
        rw [List.length_map, hds] at hup
        unfold loopsN at hup
        rw [List.take_length] at hup
        exact hup
    · rintro σ H2 ⟨o2, o3, ws, rfl, s3, hp2, hw⟩
      rw [show ((h.n : Nat) : Int).toNat = h.n by omega, loops_eq] at hw
      exact ⟨_, rfl, k H2 p (sH s3) ⟨ws, SqL.of hp2, pr_imp hw fun _ _ z => z.at_⟩⟩
end
end My


end
section
set_option Elab.async false
set_option linter.all false
set_option maxRecDepth 100000
set_option maxHeartbeats 1000000
namespace My
open PySem PySem.Spec PyProof.Rows L2
open Kri4 (times turned turnedSet)
open Kri8 (House)
abbrev sSet : Stmt := top 27
abbrev dCounted : Stmt := top 49
abbrev dChosen : Stmt := top 50
def tLen (K : PySem.W.Frag) (t : TE) : TE := tCB (fun xs H Q => ∃ p ys, xs = [.ref p] ∧ (SqL K H p ys ∨ SqT K H p ys) ∧ Q (.int ys.length) H) (tCons t tNil)
def onM (h : House) : List Nat := (List.range h.n).map fun x => h.at_ x x
def any3 (h : House) : Bool := ((loopsM h).map fun x => x.1 == 2 && x.2.length == 2).any id
def any4 (h : House) : Bool := ((loopsM h).map fun x => decide (2 < x.2.length)).any id
theorem settles_of {h : House} (wf : Wf h) : h.settles = if 2 ∈ onM h then 1 else if 0 ∉ onM h then 2 else if any3 h = true then 3 else if any4 h = true then 4 else if h.det = 2 then 5 else 0 := by
  have e1 : h.qs.any (fun i => h.at_ i i == 2) = decide (2 ∈ onM h) := by
    unfold onM House.qs
    by_cases c : 2 ∈ (List.range h.n).map fun x => h.at_ x x
    · rw [decide_eq_true c]
      obtain ⟨x, hx, e⟩ := List.mem_map.mp c
      exact List.any_eq_true.mpr ⟨x, hx, by rw [e]; rfl⟩
    · rw [decide_eq_false c, List.any_eq_false]
      intro x hx z
      exact c (List.mem_map.mpr ⟨x, hx, by simpa using z⟩)
  have e3 : h.loops.any (fun r => r.length == 2 && h.loopSign r == 2) = any3 h := by
    unfold any3 loopsM
    rw [List.map_map, List.any_map]
    congr 1
    funext r
    show (r.length == 2 && h.loopSign r == 2) = (h.loopSign r == 2 && r.length == 2)
    rw [Bool.and_comm]
  have e4 : h.loops.any (fun r => decide (3 ≤ r.length)) = any4 h := by
    unfold any4 loopsM
    rw [List.map_map, List.any_map]
    rfl
  unfold House.settles
  rw [e1, e3, e4]
  by_cases c1 : 2 ∈ onM h
  · rw [if_pos (decide_eq_true c1), if_pos c1]
  · rw [if_neg (by rw [decide_eq_false c1]; exact Bool.false_ne_true), if_neg c1]
    have e2 : h.qs.all (fun i => h.at_ i i == 1) = decide (0 ∉ onM h) := by
      by_cases c : 0 ∈ onM h
      · rw [decide_eq_false (fun z => z c)]
        obtain ⟨x, hx, e⟩ := List.mem_map.mp c
        rw [List.all_eq_false]
        exact ⟨x, hx, by rw [e]; decide⟩
      · rw [decide_eq_true c]
        refine List.all_eq_true.mpr fun x hx => ?_
        have hxn := List.mem_range.mp hx
        have h1 := at_le wf x x hxn hxn
        have h2 : h.at_ x x ≠ 2 := fun z => c1 (List.mem_map.mpr ⟨x, hx, z⟩)
        have h3 : h.at_ x x ≠ 0 := fun z => c (List.mem_map.mpr ⟨x, hx, z⟩)
        have : h.at_ x x = 1 := by omega
        rw [this]; rfl
    rw [e2]
    by_cases c2 : 0 ∉ onM h
    · rw [if_pos (decide_eq_true c2), if_pos c2]
    · rw [if_neg (by rw [decide_eq_false c2]; exact Bool.false_ne_true), if_neg c2]
theorem loops_few {h : House} (hn : h.n ≤ 5) : (loopsM h).length ≤ 93750 := by
  unfold loopsM
  rw [← loops_eq]
  have := pre_few (h := h) hn (Nat.le_refl h.n)
  have h2 : h.n * 18750 ≤ 5 * 18750 := Nat.mul_le_mul_right _ hn
  omega
theorem in_nat (l : List Nat) (x : Nat) (neg : Bool) : (if neg = true then !inV (nV x) (l.map nV) else inV (nV x) (l.map nV)) = if neg = true then !decide (x ∈ l) else decide (x ∈ l) := by rw [inV_nat]
section
variable {P : Program} {w : World} {K : PySem.W.Frag} {mg : Str → Option Value} {base : Heap} {f C : Addr} {fd : FuncData}
def nSet : List Str := ["table", "on_themselves", "loops", "quantity", "row", "sign", "quantities"]
theorem scSet : FnScope nSet ["table"] (defScope sSet) := ⟨rfl, rfl, rfl, by decide +kernel, rfl, by decide +kernel, by decide +kernel⟩
def spSet (K : PySem.W.Frag) : Sp := fun vs H Q _ => ∃ (a : Addr) (h : House), vs = [.ref a] ∧ TabAt K H a h.on ∧ Wf h ∧ ∀ H' : Hp, Same H H' → Q (nV h.settles) H'
theorem c_set (F : Fun K "settling" "settling" sSet f fd) (hm : mg "settling" = some (.ref f)) (Cs : Cst mg) (B : Blt mg) (cL : Cal P w K mg base 3 "signed_loops" ["table"] (spSL K)) (cD : Cal P w K mg base 4 "determinant" ["table"] (spDet K)) : Cal P w K mg base 5 "settling" ["table"] (spSet K) := by
  refine ⟨f, fd, F.ok scSet (fun vs H Q E h => ?_) (fun cdv A outer s H vs Q E hr h => ?_), hm, F.kp, F.binds fun _ _ _ _ _ _ us hl => match us, hl with | [_], _ => rfl⟩
  · obtain ⟨_, _, rfl, _⟩ := h; rfl
  · obtain ⟨a, h, rfl, hA, wf, k⟩ := h
    have hn := wf.n5
    obtain ⟨vs, hvs, hpr⟩ := id hA
    have hvl : vs.length = h.n := by rw [pr_len hpr, wf.len]
    have hll := loops_few (h := h) hn
    refine ⟨_, pss_cons (ps_setLc (g := gTup K 2 (gCons (gName 3) (gCons (gName 4) gNil))) (te := tOp (rIxL K) (tVar 4) (tVar 3)) (i := 1) rfl scSet.nd rfl rfl (sw_true rfl rfl rfl (by decide +kernel)) (pi_enum rfl B.enum (pa_cons (pv 0) pa_nil)) (blkOk_by (N := nSet) (sc := defScope sSet) (own := [("quantity", 3), ("row", 4)]) (by decide +kernel))
        (fun _ _ _ _ _ => pg_tup rfl (pgs_cons (pg_name (i := 3) scSet.nd rfl (Or.inl rfl) (Or.inr rfl)) (pgs_cons (pg_name (i := 4) scSet.nd rfl (Or.inl rfl) (Or.inr rfl)) pgs_nil))) (fun _ _ _ _ _ => pts_nil) (fun _ _ _ _ _ => pe_ix ix_list (pv 4) (pv 3) (fun _ _ => rfl)))
      (pss_cons (ps_if (pt_cmpR op_in_seq (pgc rfl Cs.above) (pv 1) (by with_unfolding_all rfl)) (pss_one (ps_ret pe_int)) pss_nil)
      (pss_cons (ps_if (pt_cmpR op_notIn_seq (pgc rfl Cs.below) (pv 1) (by with_unfolding_all rfl)) (pss_one (ps_ret pe_int)) pss_nil)
      (pss_cons (ps_set (i := 2) scSet.nd rfl (Or.inl rfl) (pcall cL hr (by decide) rfl (pa_cons (pv 0) pa_nil)))
      (pss_cons (ps_if (pt_val (pe_callB (cr_any rfl) (by rfl) B.any (by decide +kernel) (pa_cons (pe_lc (g := gTup K 2 (gCons (gName 5) (gCons (gName 6) gNil))) (te := tAndV (tOp rEq (tVar 5) (tC (.int 2))) (tOp rEq (tLen K (tVar 6)) (tC (.int 2)))) rfl scSet.nd (pi_list (pv 2)) (blkOk_by (N := nSet) (sc := defScope sSet) (own := [("sign", 5), ("quantities", 6)]) (by decide +kernel))
          (fun _ _ _ _ _ => pg_tup rfl (pgs_cons (pg_name (i := 5) scSet.nd rfl (Or.inl rfl) (Or.inr rfl)) (pgs_cons (pg_name (i := 6) scSet.nd rfl (Or.inl rfl) (Or.inr rfl)) pgs_nil))) (fun _ _ _ _ _ => pts_nil)
          (fun _ _ _ _ _ => pe_and (pe_cmpR op_eq (pv 5) (pgc rfl Cs.above) (nomark _)) (pe_one (pe_cmpR op_eq (pe_callB call_len_seq (by rfl) B.len PySem.boot_len (pa_cons (pv 6) pa_nil)) pe_int (nomark _))))) pa_nil))) (pss_one (ps_ret pe_int)) pss_nil)
      (pss_cons (ps_if (pt_val (pe_callB (cr_any rfl) (by rfl) B.any (by decide +kernel) (pa_cons (pe_lc (g := gTup K 2 (gCons (gName 5) (gCons (gName 6) gNil))) (te := tOp (rI0 fun i j => .bl (decide (j < i))) (tLen K (tVar 6)) (tC (.int 2))) rfl scSet.nd (pi_list (pv 2)) (blkOk_by (N := nSet) (sc := defScope sSet) (own := [("sign", 5), ("quantities", 6)]) (by decide +kernel))
          (fun _ _ _ _ _ => pg_tup rfl (pgs_cons (pg_name (i := 5) scSet.nd rfl (Or.inl rfl) (Or.inr rfl)) (pgs_cons (pg_name (i := 6) scSet.nd rfl (Or.inl rfl) (Or.inr rfl)) pgs_nil))) (fun _ _ _ _ _ => pts_nil)
          (fun _ _ _ _ _ => pe_cmpR op_gt (pe_callB call_len_seq (by rfl) B.len PySem.boot_len (pa_cons (pv 6) pa_nil)) pe_int (nomark _))) pa_nil))) (pss_one (ps_ret pe_int)) pss_nil)
      (pss_cons (ps_if (pt_cmpR op_eq (pcall cD hr (Nat.le_refl _) rfl (pa_cons (pv 0) pa_nil)) (pgc rfl Cs.oNone) (nomark _)) (pss_one (ps_ret pe_int)) pss_nil)
      (pss_one (ps_ret pe_int)))))))), ?_⟩
    rw [settles_of wf] at k
    refine ⟨_, rfl, a, vs, rfl, hvs, fun D hD => lc_enum (a := a) (xs := vs) (fun i H' => H' D = some (.lst (((List.range i).map fun x => h.at_ x x).map nV)) ∧ Same H H') ⟨upd_same, (Same.refl H).upd hD⟩ (fun i H' _ hp => hp.2.seq hvs) (fun i x H' T hx hp hT => ?_) fun H1 hp => ?_⟩
    · obtain ⟨row, hrow, ra, rfl, hra⟩ := pr_get' hpr hx
      have hin : i < h.n := by rw [← hvl]; exact (List.getElem?_eq_some_iff.mp hx).1
      have hrl := (wf.sq row (List.mem_of_getElem? hrow)).1
      have s2 : Same H' (upd H' T (.tup [.int (i : Nat), .ref ra])) := (Same.refl H').upd hT
      have hcell : (row.map nV)[i]? = some (nV (h.at_ i i)) := by
        have e : row[i]? = some row[i] := List.getElem?_eq_getElem (by omega)
        rw [List.getElem?_map, at_row wf hin hrow, List.getD_eq_getElem?_getD, e]; rfl
      refine ⟨T, _, rfl, SqT.of upd_same, rfl, _, _, rfl, _, _, rfl, rfl, rfl, tyes ⟨_, rfl, _, rfl, ra, _, _, _, rfl, rfl, s2.seq (hp.2.seq hra), atI_nat hcell, _, s2 _ _ hp.1, small (by simp; omega), ?_, (hp.2.trans s2).upd hD⟩⟩
      rw [upd_same, List.range_succ, List.map_append, List.map_append]; rfl
    obtain ⟨hD1, s1⟩ := hp
    rw [hvl] at hD1
    have hq : SqL K H1 D ((onM h).map nV) := SqL.of hD1
    refine ⟨_, rfl, D, _, rfl, .inl hq, rfl, all_flat _, _, rfl, ?_⟩
    rw [show ∀ neg : Bool, (if neg = true then !inV (V.int 2) ((onM h).map nV) else inV (V.int 2) ((onM h).map nV)) = if neg = true then !decide (2 ∈ onM h) else decide (2 ∈ onM h) from in_nat _ 2]
    by_cases c1 : 2 ∈ onM h
    · rw [decide_eq_true c1]
      rw [if_pos c1] at k
      exact iteT (k H1 s1)
    rw [decide_eq_false c1]
    rw [if_neg c1] at k
    refine iteF ⟨_, rfl, D, _, rfl, .inl hq, rfl, all_flat _, _, rfl, ?_⟩
    rw [show ∀ neg : Bool, (if neg = true then !inV (V.int 0) ((onM h).map nV) else inV (V.int 0) ((onM h).map nV)) = if neg = true then !decide (0 ∈ onM h) else decide (0 ∈ onM h) from in_nat _ 0]
    by_cases c2 : 0 ∈ onM h
    case neg =>
      rw [decide_eq_false c2]
      rw [if_pos c2] at k
      exact iteT (k H1 s1)
    rw [decide_eq_true c2]
    rw [if_neg (fun z => z c2)] at k
    refine iteF ⟨_, rfl, a, h, rfl, hA.same s1, wf, fun H2 p s2 hp => ?_⟩
    obtain ⟨ws, hws, hwp⟩ := hp
    have hwl := pr_len hwp
    refine ⟨_, rfl, p, rfl, ⟨_, hws⟩, fun D2 hD2 => lc_list (a := p) (xs := ws) (fun i H' => H' D2 = some (.lst ((((loopsM h).take i).map fun x => x.1 == 2 && x.2.length == 2).map V.bl)) ∧ Same H2 H') ⟨upd_same, (Same.refl H2).upd hD2⟩ (fun i H' _ hp => hp.2.seq hws) (fun i x H' hx hp => ?_) fun H3 hp => ?_⟩
    · obtain ⟨y, hy, t, ad, rfl, ht, had⟩ := pr_get' hwp hx
      have hfin : ∀ b : Bool, b = (y.1 == 2 && y.2.length == 2) → upd H' D2 (.lst (((((loopsM h).take i).map fun x => x.1 == 2 && x.2.length == 2).map V.bl) ++ [.bl b])) D2 = some (.lst ((((loopsM h).take (i + 1)).map fun x => x.1 == 2 && x.2.length == 2).map V.bl)) := fun b e => by
        rw [upd_same, take_snoc hy, List.map_append, List.map_append, e]; rfl
      have hsm : ((((loopsM h).take i).map fun x => x.1 == 2 && x.2.length == 2).map V.bl).length < sizeLine := small (by rw [List.length_map, List.length_map, List.length_take]; omega)
      refine ⟨t, _, rfl, SqT.of (hp.2 _ _ ht), rfl, _, _, rfl, _, _, rfl, rfl, rfl, tyes ⟨_, rfl, rfl, _, rfl, ?_⟩⟩
      rw [show decide (nV y.1 = V.int 2) = (y.1 == 2) from nat_eq y.1 2]
      cases hc : y.1 == 2 with
      | false => exact iteF ⟨_, hp.1, hsm, hfin false (by rw [hc]; rfl), hp.2.upd hD2⟩
      | true =>
        refine iteT ⟨_, rfl, ad, y.2.map nV, rfl, .inl (SqL.of (hp.2 _ _ had)), rfl, _, hp.1, hsm, hfin _ ?_, hp.2.upd hD2⟩
        rw [hc, List.length_map]
        exact nat_eq y.2.length 2
    obtain ⟨h3, s3⟩ := hp
    rw [hwl, List.take_length] at h3
    refine ⟨D2, _, rfl, SqL.of h3, _, rfl, ?_⟩
    have c3' : (((loopsM h).map fun x => x.1 == 2 && x.2.length == 2).any id) = any3 h := rfl
    rw [c3']
    cases c3 : any3 h with
    | true =>
      rw [c3, if_pos rfl] at k
      exact iteT (k H3 (s1.trans (s2.trans s3)))
    | false =>
      rw [c3, if_neg Bool.false_ne_true] at k
      have hws3 := s3.seq hws
      refine iteF ⟨_, rfl, p, rfl, ⟨_, hws3⟩, fun D4 hD4 => lc_list (a := p) (xs := ws) (fun i H' => H' D4 = some (.lst ((((loopsM h).take i).map fun x => decide (2 < x.2.length)).map V.bl)) ∧ Same H3 H') ⟨upd_same, (Same.refl H3).upd hD4⟩ (fun i H' _ hp => hp.2.seq hws3) (fun i x H' hx hp => ?_) fun H4 hp => ?_⟩
      · obtain ⟨y, hy, t, ad, rfl, ht, had⟩ := pr_get' hwp hx
        refine ⟨t, _, rfl, SqT.of (hp.2 _ _ (s3 _ _ ht)), rfl, _, _, rfl, _, _, rfl, rfl, rfl, tyes ⟨_, rfl, ad, y.2.map nV, rfl, .inl (SqL.of (hp.2 _ _ (s3 _ _ had))), _, _, rfl, rfl, _, hp.1, small (by rw [List.length_map, List.length_map, List.length_take]; omega), ?_, hp.2.upd hD4⟩⟩
        rw [upd_same, take_snoc hy, List.map_append, List.map_append]
        have e : decide ((2 : Int) < (((y.2.map nV).length : Nat) : Int)) = decide (2 < y.2.length) := by
          rw [List.length_map]
          by_cases c : 2 < y.2.length
          · rw [decide_eq_true c, decide_eq_true (by omega)]
          · rw [decide_eq_false c, decide_eq_false (by omega)]
        dsimp only
        rw [e]; rfl
      obtain ⟨h4, s4⟩ := hp
      rw [hwl, List.take_length] at h4
      refine ⟨D4, _, rfl, SqL.of h4, _, rfl, ?_⟩
      have c4' : (((loopsM h).map fun x => decide (2 < x.2.length)).any id) = any4 h := rfl
      rw [c4']
      have s14 := s1.trans (s2.trans (s3.trans s4))
      cases c4 : any4 h with
      | true =>
        rw [c4, if_pos rfl] at k
        exact iteT (k H4 s14)
      | false =>
        rw [c4, if_neg Bool.false_ne_true] at k
        refine iteF ⟨_, rfl, a, h.on, h.n, rfl, hA.same s14, hn, wf.len, wf.sq, fun H5 s5 => ⟨rfl, _, rfl, ?_⟩⟩
        rw [show decide (nV (Mth.detM h.on) = V.int 2) = (Mth.detM h.on == 2) from nat_eq _ 2, det_eq wf]
        by_cases c5 : h.det = 2
        · rw [show (h.det == 2) = true by simpa using c5]
          rw [if_pos c5] at k
          exact iteT (k H5 (s14.trans s5))
        · rw [show (h.det == 2) = false by simpa using c5]
          rw [if_neg c5] at k
          exact iteF (k H5 (s14.trans s5))
end
end My


end
section
set_option Elab.async false
set_option linter.all false
set_option maxRecDepth 100000
set_option maxHeartbeats 1000000
namespace My
open PySem PySem.Spec PyProof.Rows L2
open Kri4 (times turned turnedSet)
open Kri8 (House)
theorem count_nat (l : List Nat) (c : Nat) : ((l.map nV).countP fun z => eqV z (nV c)) = (l.filter fun x => x == c).length := by
  rw [List.countP_map, List.countP_eq_length_filter]
  congr 1
  refine List.filter_congr fun x _ => ?_
  show ((x : Int) == (c : Int)) = (x == c)
  by_cases e : x = c
  · subst e; simp
  · rw [show (x == c) = false by simpa using e]
    have : ¬ ((x : Int) = (c : Int)) := by omega
    simpa using this
def cntM (xs : List (Nat × List Nat)) : List Nat := [xs.length, ((xs.map (·.1)).filter fun x => x == 2).length, ((xs.map (·.1)).filter fun x => x == 0).length]
def choM (xs : List (Nat × List Nat)) (k : Nat) : List Int := match xs[k]? with
  | none => [-33]
  | some x => (x.1 : Int) :: x.2.map fun (y : Nat) => (y : Int)
def feedM (h : House) (i : Nat) : List Nat := h.qs.filter fun j => h.acts j i
section
variable {P : Program} {w : World} {K : PySem.W.Frag} {mg : Str → Option Value} {base : Heap} {f C : Addr} {fd : FuncData}
def nFeed : List Str := ["self", "quantity", "other", "acts"]
theorem scFeed : FnScope nFeed ["self", "quantity"] (defScope mFeed) := ⟨rfl, rfl, rfl, by decide +kernel, rfl, by decide +kernel, by decide +kernel⟩
def spFeed (C : Addr) : Sp := fun vs H Q _ => ∃ (p : Addr) (F : List Addr) (h : House) (i : Nat), vs = [.ref p, nV i] ∧ PlantAt C H p F h ∧ Wf h ∧ i < h.n ∧
  ∀ (H' : Hp) (r : Addr), Same H H' → H r = none → H' r = some (.lst ((feedM h i).map nV)) → Q (.ref r) H'
theorem m_feed (F : Fun K "acting_on" "Plant.acting_on" mFeed f fd) (M : Meth K C "acting_on" f) (T : Txt K C) (Cs : Cst mg) (B : Blt mg) : MCal P w K mg base C 1 "acting_on" ["self", "quantity"] (spFeed C) := by
  refine ⟨f, fd, F.ok scFeed (fun vs H Q E h => ?_) (fun cdv A outer s H vs Q E hr h => ?_), M, F.binds fun _ _ _ _ _ _ us hl => match us, hl with | [_, _], _ => rfl⟩
  · obtain ⟨_, _, _, _, rfl, _⟩ := h; rfl
  · obtain ⟨p, F, h, i, rfl, hP, wf, hi, k⟩ := h
    have hn := wf.n5
    obtain ⟨dx, ta, pa, as, hF, h1, h2, h4, _⟩ := hP.tab
    obtain ⟨a, ha⟩ : ∃ a, as[i]? = some a := ⟨_, List.getElem?_eq_getElem (by rw [rows_len h4, wf.len]; exact hi)⟩
    obtain ⟨row, hrow, hra⟩ := pr_get' h4 ha
    have hrl := (wf.sq row (List.mem_of_getElem? hrow)).1
    refine ⟨_, pss_one (ps_ret (pe_lc (g := gTup K 2 (gCons (gName 2) (gCons (gName 3) gNil))) rfl scFeed.nd (pi_enum rfl B.enum (pa_cons (pe_ix ix_list (pe_fld (pv 0) rfl) (pv 1) (fun _ _ => rfl)) pa_nil)) (blkOk_by (N := nFeed) (sc := defScope mFeed) (own := [("other", 2), ("acts", 3)]) (by decide +kernel))
      (fun _ _ _ _ _ => pg_tup rfl (pgs_cons (pg_name (i := 2) scFeed.nd rfl (Or.inl rfl) (Or.inr rfl)) (pgs_cons (pg_name (i := 3) scFeed.nd rfl (Or.inl rfl) (Or.inr rfl)) pgs_nil))) (fun _ _ _ _ _ => pts_one (pt_cmpR op_ne (pv 3) (pgc rfl Cs.non) (nomark _))) (fun _ _ _ _ _ => pv 2))), ?_⟩
    refine ⟨_, rfl, p, C, dx, _, _, rfl, h1, T.cl, T.nT, pf_tab _ _, _, rfl, ta, _, _, _, rfl, rfl, SqL.of h2, atI_nat (v := V.ref a) (by rw [List.getElem?_map, ha]; rfl), a, row.map nV, rfl, SqL.of hra, fun D hD => lc_enum (a := a) (xs := row.map nV) (fun m H' => H' D = some (.lst (((List.range m).filter fun j => h.acts j i).map nV)) ∧ Same H H') ⟨upd_same, (Same.refl H).upd hD⟩ (fun m H' _ hp => SqL.of (hp.2 _ _ hra)) (fun m x H' T2 hx hp hT => ?_) fun H' hp => ?_⟩
    · obtain ⟨c, hc, rfl⟩ := map_at hx
      have hmn : m < h.n := by rw [← hrl]; exact (List.getElem?_eq_some_iff.mp hc).1
      have ec : h.at_ i m = c := by rw [at_row wf hi hrow m, List.getD_eq_getElem?_getD, hc]; rfl
      have s2 : Same H' (upd H' T2 (.tup [.int (m : Nat), nV c])) := (Same.refl H').upd hT
      refine ⟨T2, _, rfl, SqT.of upd_same, rfl, _, _, rfl, _, _, rfl, rfl, rfl, _, rfl, rfl, _, rfl, ?_⟩
      rw [ne_one]
      have ea : h.acts m i = (c != 1) := by unfold House.acts; rw [ec]
      cases hb : (c != 1) with
      | true =>
        refine iteT ⟨_, rfl, _, s2 _ _ hp.1, small ?_, ?_, (hp.2.trans s2).upd hD⟩
        · rw [List.length_map]
          exact Nat.le_trans (List.length_filter_le _ _) (by simp; omega)
        · rw [upd_same, List.range_succ, List.filter_append, List.map_append, List.filter_cons, ea, hb, if_pos rfl]; rfl
      | false =>
        refine iteF ⟨?_, hp.2.trans s2⟩
        rw [s2 _ _ hp.1, List.range_succ, List.filter_append, List.filter_cons, ea, hb, if_neg Bool.false_ne_true, List.filter_nil, List.append_nil]
    · obtain ⟨hD1, s1⟩ := hp
      rw [List.length_map, hrl] at hD1
      exact k H' D s1 hD hD1
def nCnt : List Str := ["ways", "way_signs", "sign", "quantities"]
theorem scCnt : FnScope nCnt ["ways"] (defScope dCounted) := ⟨rfl, rfl, rfl, by decide +kernel, rfl, by decide +kernel, by decide +kernel⟩
def spCnt (K : PySem.W.Frag) : Sp := fun vs H Q _ => ∃ (p : Addr) (xs : List (Nat × List Nat)), vs = [.ref p] ∧ WaysAt K H p xs ∧ xs.length ≤ 93750 ∧
  ∀ (H1 : Hp) (r : Addr), Same H H1 → H1 r = none → Q (.ref r) (upd H1 r (.lst ((cntM xs).map nV)))
theorem c_cnt (F : Fun K "counted" "counted" dCounted f fd) (hm : mg "counted" = some (.ref f)) (Cs : Cst mg) (B : Blt mg) : Cal P w K mg base 1 "counted" ["ways"] (spCnt K) := by
  refine ⟨f, fd, F.ok scCnt (fun vs H Q E h => ?_) (fun cdv A outer s H vs Q E hr h => ?_), hm, F.kp, F.binds fun _ _ _ _ _ _ us hl => match us, hl with | [_], _ => rfl⟩
  · obtain ⟨_, _, rfl, _⟩ := h; rfl
  · obtain ⟨p, xs, rfl, ⟨ws, hws, hwp⟩, hxl, k⟩ := h
    have hwl := pr_len hwp
    refine ⟨_, pss_cons (ps_setLc (g := gTup K 2 (gCons (gName 2) (gCons (gName 3) gNil))) (i := 1) rfl scCnt.nd rfl rfl (sw_true rfl rfl rfl (by decide +kernel)) (pi_list (pv 0)) (blkOk_by (N := nCnt) (sc := defScope dCounted) (own := [("sign", 2), ("quantities", 3)]) (by decide +kernel))
        (fun _ _ _ _ _ => pg_tup rfl (pgs_cons (pg_name (i := 2) scCnt.nd rfl (Or.inl rfl) (Or.inr rfl)) (pgs_cons (pg_name (i := 3) scCnt.nd rfl (Or.inl rfl) (Or.inr rfl)) pgs_nil))) (fun _ _ _ _ _ => pts_nil) (fun _ _ _ _ _ => pv 2))
      (pss_one (ps_ret (pe_lst (pa_cons (pe_callB call_len_seq (by rfl) B.len PySem.boot_len (pa_cons (pv 1) pa_nil)) (pa_cons (pe_bm PySem.F.plainAttrs_list PySem.F.slot_list_count PySem.F.type_list_count mt_count_list (pv 1) (pa_cons (pgc rfl Cs.above) pa_nil))
        (pa_cons (pe_bm PySem.F.plainAttrs_list PySem.F.slot_list_count PySem.F.type_list_count mt_count_list (pv 1) (pa_cons (pgc rfl Cs.below) pa_nil)) pa_nil)))))), ?_⟩
    refine ⟨_, rfl, p, rfl, ⟨_, hws⟩, fun D hD => lc_list (a := p) (xs := ws) (fun i H' => H' D = some (.lst (((xs.take i).map (·.1)).map nV)) ∧ Same H H') ⟨upd_same, (Same.refl H).upd hD⟩ (fun i H' _ hp => hp.2.seq hws) (fun i x H' hx hp => ?_) fun H1 hp => ?_⟩
    · obtain ⟨y, hy, t, ad, rfl, ht, had⟩ := pr_get' hwp hx
      refine ⟨t, _, rfl, SqT.of (hp.2 _ _ ht), rfl, _, _, rfl, _, _, rfl, rfl, rfl, tyes ⟨_, rfl, _, hp.1, small (by rw [List.length_map, List.length_map, List.length_take]; omega), ?_, hp.2.upd hD⟩⟩
      rw [upd_same, take_snoc hy, List.map_append, List.map_append]; rfl
    · obtain ⟨hD1, s1⟩ := hp
      rw [hwl, List.take_length] at hD1
      have hq : SqL K H1 D ((xs.map (·.1)).map nV) := SqL.of hD1
      refine ⟨_, rfl, D, _, rfl, .inl hq, _, rfl, .inl ⟨rfl, _, hq⟩, D, _, V.int 2, rfl, rfl, hq, rfl, all_flat _, _, rfl, .inl ⟨rfl, _, hq⟩, D, _, V.int 0, rfl, rfl, hq, rfl, all_flat _, by show 3 ≤ sizeLine; decide, fun r hr0 => ?_⟩
      have := k H1 r s1 hr0
      have e1 := count_nat (xs.map (·.1)) 2
      have e0 := count_nat (xs.map (·.1)) 0
      have e : [V.int ((((xs.map (·.1)).map nV).length : Nat) : Int), V.int (((((xs.map (·.1)).map nV).countP fun z => eqV z (V.int 2)) : Nat) : Int), V.int (((((xs.map (·.1)).map nV).countP fun z => eqV z (V.int 0)) : Nat) : Int)] = (cntM xs).map nV := by
        rw [show (fun z => eqV z (V.int 2)) = fun z => eqV z (nV 2) from rfl, show (fun z => eqV z (V.int 0)) = fun z => eqV z (nV 0) from rfl, e1, e0, List.length_map, List.length_map]; rfl
      rw [e]; exact this
def nCho : List Str := ["ways", "which", "way"]
theorem scCho : FnScope nCho ["ways", "which"] (defScope dChosen) := ⟨rfl, rfl, rfl, by decide +kernel, rfl, by decide +kernel, by decide +kernel⟩
def spCho (K : PySem.W.Frag) : Sp := fun vs H Q _ => ∃ (p : Addr) (xs : List (Nat × List Nat)) (k : Nat), vs = [.ref p, nV k] ∧ WaysAt K H p xs ∧ (∀ x ∈ xs, x.2.length ≤ 5) ∧
  ∀ (H1 : Hp) (r : Addr), Same H H1 → H1 r = none → Q (.ref r) (upd H1 r (.lst ((choM xs k).map V.int)))
theorem c_cho (F : Fun K "chosen" "chosen" dChosen f fd) (hm : mg "chosen" = some (.ref f)) (C2 : Cst2 mg) (B : Blt mg) : Cal P w K mg base 1 "chosen" ["ways", "which"] (spCho K) := by
  refine ⟨f, fd, F.ok scCho (fun vs H Q E h => ?_) (fun cdv A outer s H vs Q E hr h => ?_), hm, F.kp, F.binds fun _ _ _ _ _ _ us hl => match us, hl with | [_, _], _ => rfl⟩
  · obtain ⟨_, _, _, rfl, _⟩ := h; rfl
  · obtain ⟨p, xs, kk, rfl, ⟨ws, hws, hwp⟩, hx5, k⟩ := h
    have hwl := pr_len hwp
    refine ⟨_, pss_cons (ps_if (pt_cmpR op_ge (pv 1) (pe_callB call_len_seq (by rfl) B.len PySem.boot_len (pa_cons (pv 0) pa_nil)) (nomark _)) (pss_one (ps_ret (pe_lst (pa_cons (pgc rfl C2.ns) pa_nil)))) pss_nil)
      (pss_cons (ps_set (i := 2) scCho.nd rfl (Or.inl rfl) (pe_ix ix_list (pv 0) (pv 1) (fun _ _ => rfl)))
      (pss_one (ps_ret (pe_op op_cat (pe_lst (pa_cons (pe_ix ix_tup (pv 2) pe_int (fun _ _ => rfl)) pa_nil)) (pe_ix ix_tup (pv 2) pe_int (fun _ _ => rfl)))))), ?_⟩
    refine ⟨_, rfl, _, rfl, p, ws, rfl, .inl hws, _, _, rfl, rfl, _, rfl, ?_⟩
    cases hx : xs[kk]? with
    | none =>
      have hle : xs.length ≤ kk := List.getElem?_eq_none_iff.mp hx
      rw [decide_eq_true (show ((ws.length : Nat) : Int) ≤ (kk : Int) by omega)]
      refine iteT ⟨one_le, fun r hr0 => ?_⟩
      have := k H r (Same.refl H) hr0
      unfold choM at this
      rw [hx] at this
      exact this
    | some x =>
      have hlt : kk < xs.length := (List.getElem?_eq_some_iff.mp hx).1
      rw [decide_eq_false (show ¬ ((ws.length : Nat) : Int) ≤ (kk : Int) by omega)]
      obtain ⟨v, hv, t, ad, rfl, ht, had⟩ := pr_get hwp hx
      have h5 := hx5 x (List.mem_of_getElem? hx)
      refine iteF ⟨_, rfl, _, rfl, p, ws, _, _, rfl, rfl, hws, atI_nat hv, ?_⟩
      refine ⟨_, rfl, t, _, _, _, rfl, rfl, SqT.of ht, at_of (j := 0) rfl rfl, one_le, fun p1 h1 => ?_⟩
      have s1 : Same H (upd H p1 (.lst [nV x.1])) := (Same.refl H).upd h1
      refine ⟨_, rfl, t, _, _, _, rfl, rfl, SqT.of (s1 _ _ ht), at_of (j := 1) rfl rfl, p1, ad, _, _, rfl, rfl, upd_same, s1 _ _ had, Nat.le_of_lt (small (by rw [List.length_map]; simp; omega)), fun r hr0 => ?_⟩
      have := k _ r s1 hr0
      unfold choM at this
      rw [hx] at this
      have e : ((x.1 : Int) :: x.2.map fun (y : Nat) => (y : Int)).map V.int = [nV x.1] ++ x.2.map nV := by
        rw [List.map_cons, List.map_map]; rfl
      rw [← e]; exact this
end
end My


end
section
set_option Elab.async false
set_option linter.all false
set_option maxRecDepth 100000
set_option maxHeartbeats 1000000
namespace My
open PySem PySem.Spec PyProof.Rows L2
open Kri4 (times turned turnedSet)
open Kri8 (House)
abbrev dIdle : Stmt := top 47
abbrev dIdles : Stmt := top 48
abbrev dPaths : Stmt := top 51
abbrev dPath : Stmt := top 52
abbrev dLoops : Stmt := top 53
abbrev dLoop : Stmt := top 54
abbrev dThrough : Stmt := top 55
abbrev dSettles : Stmt := top 56
abbrev dFeeds : Stmt := top 57
abbrev dLook : Stmt := top 58
abbrev dState : Stmt := top 59
def toZ (l : List Nat) : List Int := l.map fun (x : Nat) => (x : Int)
theorem toZ_V (l : List Nat) : (toZ l).map V.int = l.map nV := by unfold toZ; rw [List.map_map]; rfl
theorem fin8 {C : Addr} {H H' : Hp} {p r : Addr} {F : List Addr} {h : House} (hP : PlantAt C H p F h) (s : Same H H') (hr : H r = none) : Fin9 C H H' p F F h r :=
  ⟨hP.same s, Chg.of_same s, fun z => (by obtain ⟨u, hu⟩ := hP.there z; rw [hr] at hu; cases hu), fun b u e _ => ne_of_none e hr⟩
section
variable {P : Program} {w : World} {K : PySem.W.Frag} {mg : Str → Option Value} {base : Heap} {f C : Addr} {fd : FuncData}
def aIdle (h : House) (l : List Nat) : List Int := [if h.idle (l.getD 1 0) (l.getD 0 0) then 1 else 0]
theorem k_idle (F : Fun K "idle" "idle" dIdle f fd) (T : Txt K C) (cO : Cal P w K mg base 7 "outcome" ["table"] (spOut K)) (cI : Cal P w K mg base 8 "is_idle" nIdle (spIdle K)) : Cmd P w K mg base 9 f (spCmd K C qTwo pSame aIdle) := by
  have sc : FnScope nCmd nCmd (defScope dIdle) := ⟨rfl, rfl, rfl, by decide +kernel, rfl, by decide +kernel, by decide +kernel⟩
  refine ⟨fd, F.ok sc (fun vs H Q E h => ?_) (fun cdv A outer s H vs Q E hr h => ?_), F.kp, F.binds fun _ _ _ _ _ _ us hl => match us, hl with | [_, _], _ => rfl⟩
  · obtain ⟨_, _, _, _, _, rfl, _⟩ := h; rfl
  · obtain ⟨p, g, F, h, _, rfl, hP, wf, hg, ⟨j, i, rfl, hj, hi⟩, k⟩ := h
    obtain ⟨dx, ta, pa, as, hF, h1, h2, h4, h3⟩ := hP.tab
    have hT : TabAt K H ta h.on := ⟨_, SqL.of h2, pr_map h4⟩
    refine ⟨_, pss_one (ps_ret (pe_lst (pa_cons (pe_ifExp (pt_val (pcall cI hr (Nat.le_refl _) rfl (pa_cons (pe_fld (pv 0) rfl) (pa_cons (pcall cO hr (by decide) rfl (pa_cons (pe_fld (pv 0) rfl) pa_nil)) (pa_cons (pe_ix ix_list (pv 1) pe_int (fun _ _ => rfl)) (pa_cons (pe_ix ix_list (pv 1) pe_int (fun _ _ => rfl)) pa_nil)))))) pe_int pe_int) pa_nil))), ?_⟩
    refine ⟨_, rfl, p, C, dx, _, _, rfl, h1, T.cl, T.nT, pf_tab _ _, _, rfl, p, C, dx, _, _, rfl, h1, T.cl, T.nT, pf_tab _ _, ta, h, rfl, hT, wf, fun H1 o s1 ho0 ho => ?_⟩
    refine ⟨_, rfl, g, _, _, _, rfl, rfl, s1.seq hg, at_of (j := 0) rfl rfl, _, rfl, g, _, _, _, rfl, rfl, s1.seq hg, at_of (j := 1) rfl rfl, ta, o, h, j, i, rfl, hT.same s1, wf, SqL.of ho, hj, hi, fun H2 s2 => ⟨_, rfl, ?_⟩⟩
    have s12 := s1.trans s2
    have ea : aIdle h [j, i] = [if h.idle i j then 1 else 0] := rfl
    rw [ea] at k
    cases hc : h.idle i j with
    | true =>
      rw [hc] at k
      exact iteT ⟨one_le, fun r hr => k _ F r (fin9 (hP.same s12) (Chg.of_same s12) hr) upd_same⟩
    | false =>
      rw [hc] at k
      exact iteF ⟨one_le, fun r hr => k _ F r (fin9 (hP.same s12) (Chg.of_same s12) hr) upd_same⟩
def twoM (x : Nat × Nat) : List Nat := [x.1, x.2]
def aIdles (h : House) (l : List Nat) : List Int := toZ ((pairsM h).length :: (pairsM h).flatMap twoM)
def nIdles : List Str := ["plant", "given", "pairs", "told", "pair"]
theorem k_idles (F : Fun K "idles" "idles" dIdles f fd) (T : Txt K C) (B : Blt mg) (cP : Cal P w K mg base 9 "idle_pairs" ["table"] (spPairs K)) : Cmd P w K mg base 10 f (spCmd K C qNil pSame aIdles) := by
  have sc : FnScope nIdles nCmd (defScope dIdles) := ⟨rfl, rfl, rfl, by decide +kernel, rfl, by decide +kernel, by decide +kernel⟩
  refine ⟨fd, F.ok sc (fun vs H Q E h => ?_) (fun cdv A outer s H vs Q E hr h => ?_), F.kp, F.binds fun _ _ _ _ _ _ us hl => match us, hl with | [_, _], _ => rfl⟩
  · obtain ⟨_, _, _, _, _, rfl, _⟩ := h; rfl
  · obtain ⟨p, g, F, h, _, rfl, hP, wf, hg, rfl, k⟩ := h
    obtain ⟨dx, ta, pa, as, hF, h1, h2, h4, h3⟩ := hP.tab
    have hT : TabAt K H ta h.on := ⟨_, SqL.of h2, pr_map h4⟩
    have hpl : (pairsM h).length ≤ 25 := by
      have := flat_le (rowM_len h) h.qs
      have e : h.qs.length = h.n := by unfold House.qs; simp
      rw [e] at this
      have := Nat.mul_le_mul wf.n5 wf.n5
      unfold pairsM
      omega
    refine ⟨_, pss_cons (ps_set (i := 2) sc.nd rfl (Or.inl rfl) (pcall cP hr (Nat.le_refl _) rfl (pa_cons (pe_fld (pv 0) rfl) pa_nil)))
      (pss_cons (ps_set (i := 3) sc.nd rfl (Or.inl rfl) (pe_lst (pa_cons (pe_callB call_len_seq (by rfl) B.len PySem.boot_len (pa_cons (pv 2) pa_nil)) pa_nil)))
      (pss_cons (ps_for PassesOwn.never rfl (pi_list (pv 2)) (pg_name (i := 4) sc.nd rfl (Or.inl rfl))
        (pss_one (ps_expr (pe_bm PySem.F.plainAttrs_list PySem.F.slot_list_extend PySem.F.type_list_extend mt_extendT (pv 3) (pa_cons (pv 4) pa_nil)))))
      (pss_one (ps_ret (pv 3))))), ?_⟩
    refine ⟨_, rfl, p, C, dx, _, _, rfl, h1, T.cl, T.nT, pf_tab _ _, ta, h, rfl, hT, wf, fun H1 q ws s1 hq0 hq hwp => ?_⟩
    have hwl := pr_len hwp
    refine ⟨_, rfl, q, ws, rfl, .inl (SqL.of hq), one_le, fun t ht => ?_⟩
    have s2 : Same H1 (upd H1 t (.lst [V.int ((ws.length : Nat) : Int)])) := (Same.refl H1).upd ht
    have ht0 := s1.free ht
    have nqt : q ≠ t := ne_of_none hq ht
    refine ⟨_, rfl, q, rfl, ⟨_, SqL.of (s2 _ _ hq)⟩, for_list (K := K) (a := q) (xs := ws) (fun i σ H' => ∃ o4 : Option V, σ = [some (.ref p), some (.ref g), some (.ref q), some (.ref t), o4] ∧ SameQ t H1 H' ∧ H' t = some (.lst (((pairsM h).length :: ((pairsM h).take i).flatMap twoM).map nV))) ⟨none, rfl, SameQ.of s2, by rw [upd_same, hwl]; rfl⟩ (fun i σ H' _ ⟨_, _, s3, _⟩ => SqL.of (s3 _ _ hq nqt)) ?_ ?_⟩
    · rintro i x σ H2 hi ⟨o4, rfl, s3, ht2⟩
      obtain ⟨y, hy, b, rfl, hb⟩ := pr_get' hwp hi
      have nbt : b ≠ t := ne_of_none hb ht
      have hl1 : (((pairsM h).length :: ((pairsM h).take i).flatMap twoM).map nV).length ≤ 51 := by
        rw [List.length_map, List.length_cons]
        have := Ord.flat_len_le (f := twoM) (n := 2) ((pairsM h).take i) fun _ _ => Nat.le_refl 2
        rw [List.length_take] at this
        omega
      refine ⟨_, rfl, .inl ⟨rfl, _, SqL.of ht2⟩, _, rfl, t, b, _, _, rfl, rfl, ht2, s3 _ _ hb nbt, Nat.le_of_lt (small (by show _ + 2 ≤ _; omega)), ⟨_, rfl, s3.trans SameQ.put, ?_⟩⟩
      rw [upd_same, take_snoc hy, List.flatMap_append, List.flatMap_cons, List.flatMap_nil, List.append_nil, ← List.cons_append, List.map_append]; rfl
    · rintro σ H2 ⟨o4, rfl, s3, ht2⟩
      rw [hwl, List.take_length] at ht2
      refine ⟨_, rfl, k H2 F t (fin8 hP (SameQ.same s1 ht0 s3) ht0) ?_⟩
      rw [ht2]
      exact congrArg (fun z => some (HO.lst z)) (toZ_V _).symm
def aPaths (h : House) (l : List Nat) : List Int := toZ (cntM (pathsM h (l.getD 0 0) (l.getD 1 0)))
theorem paths_few {h : House} (hn : h.n ≤ 5) (u v : Nat) (hu : u < h.n) : (pathsM h u v).length ≤ 18750 := by
  unfold pathsM
  rw [List.length_map, ← from_filter]
  exact Nat.le_trans (List.length_filter_le _ _) (from_few hn u hu)
theorem k_paths (F : Fun K "paths" "paths" dPaths f fd) (T : Txt K C) (cS : Cal P w K mg base 3 "signed_paths" ["table", "first", "last"] (spSP K)) (cC : Cal P w K mg base 1 "counted" ["ways"] (spCnt K)) : Cmd P w K mg base 4 f (spCmd K C qTwo pSame aPaths) := by
  have sc : FnScope nCmd nCmd (defScope dPaths) := ⟨rfl, rfl, rfl, by decide +kernel, rfl, by decide +kernel, by decide +kernel⟩
  refine ⟨fd, F.ok sc (fun vs H Q E h => ?_) (fun cdv A outer s H vs Q E hr h => ?_), F.kp, F.binds fun _ _ _ _ _ _ us hl => match us, hl with | [_, _], _ => rfl⟩
  · obtain ⟨_, _, _, _, _, rfl, _⟩ := h; rfl
  · obtain ⟨p, g, F, h, _, rfl, hP, wf, hg, ⟨j, i, rfl, hj, hi⟩, k⟩ := h
    obtain ⟨dx, ta, pa, as, hF, h1, h2, h4, h3⟩ := hP.tab
    have hT : TabAt K H ta h.on := ⟨_, SqL.of h2, pr_map h4⟩
    refine ⟨_, pss_one (ps_ret (pcall cC hr (by decide) rfl (pa_cons (pcall cS hr (Nat.le_refl _) rfl (pa_cons (pe_fld (pv 0) rfl) (pa_cons (pe_ix ix_list (pv 1) pe_int (fun _ _ => rfl)) (pa_cons (pe_ix ix_list (pv 1) pe_int (fun _ _ => rfl)) pa_nil)))) pa_nil))), ?_⟩
    refine ⟨_, rfl, p, C, dx, _, _, rfl, h1, T.cl, T.nT, pf_tab _ _, _, rfl, g, _, _, _, rfl, rfl, hg, at_of (j := 0) rfl rfl, _, rfl, g, _, _, _, rfl, rfl, hg, at_of (j := 1) rfl rfl, ta, h, j, i, rfl, hT, wf, hj, hi, fun H1 q s1 hq => ⟨q, _, rfl, hq, Nat.le_trans (paths_few wf.n5 j i hj) (by decide), fun H2 r s2 hr0 => ?_⟩⟩
    refine k _ F r (fin9 (hP.same (s1.trans s2)) (Chg.of_same (s1.trans s2)) hr0) ?_
    rw [upd_same]
    exact congrArg (fun z => some (HO.lst z)) (toZ_V _).symm
def qPath (h : House) (l : List Nat) : Prop := ∃ j i k, l = [j, i, k] ∧ j < h.n ∧ i < h.n
def aPath (h : House) (l : List Nat) : List Int := choM (pathsM h (l.getD 0 0) (l.getD 1 0)) (l.getD 2 0)
theorem path_short {h : House} (hn : h.n ≤ 5) (u v : Nat) : ∀ x ∈ pathsM h u v, x.2.length ≤ 5 := fun x hx => by
  obtain ⟨r, hr, rfl⟩ := List.mem_map.mp hx
  exact Nat.le_trans (Ord.simple_len ((Ord.paths_mem h u v r).mp hr).1) hn
theorem loop_short {h : House} (hn : h.n ≤ 5) : ∀ x ∈ loopsM h, x.2.length ≤ 5 := fun x hx => by
  obtain ⟨r, hr, rfl⟩ := List.mem_map.mp hx
  exact Nat.le_trans (Ord.simple_len ((Ord.loops_mem h r).mp hr).1) hn
theorem k_path (F : Fun K "path" "path" dPath f fd) (T : Txt K C) (cS : Cal P w K mg base 3 "signed_paths" ["table", "first", "last"] (spSP K)) (cC : Cal P w K mg base 1 "chosen" ["ways", "which"] (spCho K)) : Cmd P w K mg base 4 f (spCmd K C qPath pSame aPath) := by
  have sc : FnScope nCmd nCmd (defScope dPath) := ⟨rfl, rfl, rfl, by decide +kernel, rfl, by decide +kernel, by decide +kernel⟩
  refine ⟨fd, F.ok sc (fun vs H Q E h => ?_) (fun cdv A outer s H vs Q E hr h => ?_), F.kp, F.binds fun _ _ _ _ _ _ us hl => match us, hl with | [_, _], _ => rfl⟩
  · obtain ⟨_, _, _, _, _, rfl, _⟩ := h; rfl
  · obtain ⟨p, g, F, h, _, rfl, hP, wf, hg, ⟨j, i, kk, rfl, hj, hi⟩, k⟩ := h
    obtain ⟨dx, ta, pa, as, hF, h1, h2, h4, h3⟩ := hP.tab
    have hT : TabAt K H ta h.on := ⟨_, SqL.of h2, pr_map h4⟩
    refine ⟨_, pss_one (ps_ret (pcall cC hr (by decide) rfl (pa_cons (pcall cS hr (Nat.le_refl _) rfl (pa_cons (pe_fld (pv 0) rfl) (pa_cons (pe_ix ix_list (pv 1) pe_int (fun _ _ => rfl)) (pa_cons (pe_ix ix_list (pv 1) pe_int (fun _ _ => rfl)) pa_nil)))) (pa_cons (pe_ix ix_list (pv 1) pe_int (fun _ _ => rfl)) pa_nil)))), ?_⟩
    refine ⟨_, rfl, p, C, dx, _, _, rfl, h1, T.cl, T.nT, pf_tab _ _, _, rfl, g, _, _, _, rfl, rfl, hg, at_of (j := 0) rfl rfl, _, rfl, g, _, _, _, rfl, rfl, hg, at_of (j := 1) rfl rfl, ta, h, j, i, rfl, hT, wf, hj, hi, fun H1 q s1 hq => ?_⟩
    refine ⟨_, rfl, g, _, _, _, rfl, rfl, s1.seq hg, at_of (j := 2) rfl rfl, q, _, kk, rfl, hq, path_short wf.n5 j i, fun H2 r s2 hr0 => ?_⟩
    exact k _ F r (fin9 (hP.same (s1.trans s2)) (Chg.of_same (s1.trans s2)) hr0) upd_same
def aLoops (h : House) (l : List Nat) : List Int := toZ (cntM (loopsM h))
theorem k_loops (F : Fun K "loops" "loops" dLoops f fd) (T : Txt K C) (cL : Cal P w K mg base 3 "signed_loops" ["table"] (spSL K)) (cC : Cal P w K mg base 1 "counted" ["ways"] (spCnt K)) : Cmd P w K mg base 4 f (spCmd K C qNil pSame aLoops) := by
  have sc : FnScope nCmd nCmd (defScope dLoops) := ⟨rfl, rfl, rfl, by decide +kernel, rfl, by decide +kernel, by decide +kernel⟩
  refine ⟨fd, F.ok sc (fun vs H Q E h => ?_) (fun cdv A outer s H vs Q E hr h => ?_), F.kp, F.binds fun _ _ _ _ _ _ us hl => match us, hl with | [_, _], _ => rfl⟩
  · obtain ⟨_, _, _, _, _, rfl, _⟩ := h; rfl
  · obtain ⟨p, g, F, h, _, rfl, hP, wf, hg, rfl, k⟩ := h
    obtain ⟨dx, ta, pa, as, hF, h1, h2, h4, h3⟩ := hP.tab
    have hT : TabAt K H ta h.on := ⟨_, SqL.of h2, pr_map h4⟩
    refine ⟨_, pss_one (ps_ret (pcall cC hr (by decide) rfl (pa_cons (pcall cL hr (Nat.le_refl _) rfl (pa_cons (pe_fld (pv 0) rfl) pa_nil)) pa_nil))), ?_⟩
    refine ⟨_, rfl, p, C, dx, _, _, rfl, h1, T.cl, T.nT, pf_tab _ _, ta, h, rfl, hT, wf, fun H1 q s1 hq => ⟨q, _, rfl, hq, loops_few wf.n5, fun H2 r s2 hr0 => ?_⟩⟩
    refine k _ F r (fin9 (hP.same (s1.trans s2)) (Chg.of_same (s1.trans s2)) hr0) ?_
    rw [upd_same]
    exact congrArg (fun z => some (HO.lst z)) (toZ_V _).symm
def qAny1 (h : House) (l : List Nat) : Prop := ∃ k, l = [k]
def aLoop (h : House) (l : List Nat) : List Int := choM (loopsM h) (l.getD 0 0)
theorem k_loop (F : Fun K "loop" "loop" dLoop f fd) (T : Txt K C) (cL : Cal P w K mg base 3 "signed_loops" ["table"] (spSL K)) (cC : Cal P w K mg base 1 "chosen" ["ways", "which"] (spCho K)) : Cmd P w K mg base 4 f (spCmd K C qAny1 pSame aLoop) := by
  have sc : FnScope nCmd nCmd (defScope dLoop) := ⟨rfl, rfl, rfl, by decide +kernel, rfl, by decide +kernel, by decide +kernel⟩
  refine ⟨fd, F.ok sc (fun vs H Q E h => ?_) (fun cdv A outer s H vs Q E hr h => ?_), F.kp, F.binds fun _ _ _ _ _ _ us hl => match us, hl with | [_, _], _ => rfl⟩
  · obtain ⟨_, _, _, _, _, rfl, _⟩ := h; rfl
  · obtain ⟨p, g, F, h, _, rfl, hP, wf, hg, ⟨kk, rfl⟩, k⟩ := h
    obtain ⟨dx, ta, pa, as, hF, h1, h2, h4, h3⟩ := hP.tab
    have hT : TabAt K H ta h.on := ⟨_, SqL.of h2, pr_map h4⟩
    refine ⟨_, pss_one (ps_ret (pcall cC hr (by decide) rfl (pa_cons (pcall cL hr (Nat.le_refl _) rfl (pa_cons (pe_fld (pv 0) rfl) pa_nil)) (pa_cons (pe_ix ix_list (pv 1) pe_int (fun _ _ => rfl)) pa_nil)))), ?_⟩
    refine ⟨_, rfl, p, C, dx, _, _, rfl, h1, T.cl, T.nT, pf_tab _ _, ta, h, rfl, hT, wf, fun H1 q s1 hq => ⟨_, rfl, g, _, _, _, rfl, rfl, s1.seq hg, at_of (j := 0) rfl rfl, q, _, kk, rfl, hq, loop_short wf.n5, fun H2 r s2 hr0 => ?_⟩⟩
    exact k _ F r (fin9 (hP.same (s1.trans s2)) (Chg.of_same (s1.trans s2)) hr0) upd_same
def thrM (h : House) (i : Nat) : List (Nat × List Nat) := (loopsM h).filter fun x => x.2.contains i
def aThrough (h : House) (l : List Nat) : List Int := toZ (cntM (thrM h (l.getD 0 0)))
def nThrough : List Str := ["plant", "given", "way"]
theorem k_through (F : Fun K "through" "through" dThrough f fd) (T : Txt K C) (cL : Cal P w K mg base 3 "signed_loops" ["table"] (spSL K)) (cC : Cal P w K mg base 1 "counted" ["ways"] (spCnt K)) : Cmd P w K mg base 4 f (spCmd K C qOne pSame aThrough) := by
  have sc : FnScope nThrough nCmd (defScope dThrough) := ⟨rfl, rfl, rfl, by decide +kernel, rfl, by decide +kernel, by decide +kernel⟩
  refine ⟨fd, F.ok sc (fun vs H Q E h => ?_) (fun cdv A outer s H vs Q E hr h => ?_), F.kp, F.binds fun _ _ _ _ _ _ us hl => match us, hl with | [_, _], _ => rfl⟩
  · obtain ⟨_, _, _, _, _, rfl, _⟩ := h; rfl
  · obtain ⟨p, g, F, h, _, rfl, hP, wf, hg, ⟨i, rfl, hi⟩, k⟩ := h
    obtain ⟨dx, ta, pa, as, hF, h1, h2, h4, h3⟩ := hP.tab
    have hT : TabAt K H ta h.on := ⟨_, SqL.of h2, pr_map h4⟩
    have hlf := loops_few (h := h) wf.n5
    refine ⟨_, pss_one (ps_ret (pcall cC hr (by decide) rfl (pa_cons (pe_lc (tt := tTest (tOp (rIn K false) (tOp (rIxL K) (tVar 1) (tC (.int 0))) (tOp (rIxT K) (tVar 2) (tC (.int 1))))) rfl sc.nd (pi_list (pcall cL hr (Nat.le_refl _) rfl (pa_cons (pe_fld (pv 0) rfl) pa_nil))) (blkOk_by (N := nThrough) (sc := defScope dThrough) (own := [("way", 2)]) (by decide +kernel)) (fun _ _ _ _ _ => pg_name (i := 2) sc.nd rfl (Or.inl rfl) (Or.inr rfl))
      (fun _ _ _ _ _ => pts_one (pt_cmpR op_in_seq (pe_ix ix_list (pv 1) pe_int (fun _ _ => rfl)) (pe_ix ix_tup (pv 2) pe_int (fun _ _ => rfl)) (by with_unfolding_all rfl))) (fun _ _ _ _ _ => pv 2)) pa_nil))), ?_⟩
    refine ⟨_, rfl, p, C, dx, _, _, rfl, h1, T.cl, T.nT, pf_tab _ _, ta, h, rfl, hT, wf, fun H1 q s1 hq => ?_⟩
    obtain ⟨ws, hws, hwp⟩ := hq
    have hwl := pr_len hwp
    refine ⟨q, rfl, ⟨_, hws⟩, fun D hD => lc_list (a := q) (xs := ws) (fun m H' => ∃ us, H' D = some (.lst us) ∧ Same H1 H' ∧ Paired (WayAt K H1) us (((loopsM h).take m).filter fun x => x.2.contains i)) ⟨[], upd_same, (Same.refl H1).upd hD, .nil⟩ (fun m H' _ ⟨_, _, s2, _⟩ => s2.seq hws) (fun m x H' hx hp => ?_) fun H2 hp => ?_⟩
    · obtain ⟨us, hus, s2, hup⟩ := hp
      obtain ⟨y, hy, t, ad, rfl, ht, had⟩ := pr_get' hwp hx
      refine ⟨rfl, _, rfl, g, _, _, _, rfl, rfl, s2.seq (s1.seq hg), at_of (j := 0) rfl rfl, _, rfl, t, _, _, _, rfl, rfl, SqT.of (s2 _ _ ht), at_of (j := 1) rfl rfl, ad, y.2.map nV, rfl, .inl (SqL.of (s2 _ _ had)), rfl, all_flat _, _, rfl, ?_⟩
      rw [show ∀ neg : Bool, (if neg = true then !inV (nV i) (y.2.map nV) else inV (nV i) (y.2.map nV)) = if neg = true then !decide (i ∈ y.2) else decide (i ∈ y.2) from in_nat _ i]
      have hcd : y.2.contains i = decide (i ∈ y.2) := by rw [List.contains_eq_mem]
      by_cases hc : i ∈ y.2
      · rw [decide_eq_true hc]
        rw [decide_eq_true hc] at hcd
        refine iteT ⟨_, rfl, us, hus, small ?_, us ++ [.ref t], upd_same, s2.upd hD, ?_⟩
        · rw [pr_len hup]
          refine Nat.le_trans (List.length_filter_le _ _) ?_
          rw [List.length_take]; omega
        · rw [take_snoc hy, List.filter_append, List.filter_cons, hcd, if_pos rfl, List.filter_nil]
          exact pr_app hup (.cons ⟨t, ad, rfl, ht, had⟩ .nil)
      · rw [decide_eq_false hc]
        rw [decide_eq_false hc] at hcd
        refine iteF ⟨us, hus, s2, ?_⟩
        rw [take_snoc hy, List.filter_append, List.filter_cons, hcd, if_neg Bool.false_ne_true, List.filter_nil, List.append_nil]
        exact hup
    · obtain ⟨us, hus, s2, hup⟩ := hp
      rw [hwl, List.take_length] at hup
      refine ⟨D, thrM h i, rfl, ⟨us, SqL.of hus, pr_imp hup fun _ _ z => z.same s2⟩, Nat.le_trans (List.length_filter_le _ _) hlf, fun H3 r s3 hr0 => ?_⟩
      have s13 := (s1.trans s2).trans s3
      refine k _ F r (fin9 (hP.same s13) (Chg.of_same s13) hr0) ?_
      rw [upd_same]
      exact congrArg (fun z => some (HO.lst z)) (toZ_V _).symm
def aSettles (h : House) (l : List Nat) : List Int := [(h.settles : Int)]
theorem k_settles (F : Fun K "settles" "settles" dSettles f fd) (T : Txt K C) (c : Cal P w K mg base 5 "settling" ["table"] (spSet K)) : Cmd P w K mg base 6 f (spCmd K C qNil pSame aSettles) := by
  have sc : FnScope nCmd nCmd (defScope dSettles) := ⟨rfl, rfl, rfl, by decide +kernel, rfl, by decide +kernel, by decide +kernel⟩
  refine ⟨fd, F.ok sc (fun vs H Q E h => ?_) (fun cdv A outer s H vs Q E hr h => ?_), F.kp, F.binds fun _ _ _ _ _ _ us hl => match us, hl with | [_, _], _ => rfl⟩
  · obtain ⟨_, _, _, _, _, rfl, _⟩ := h; rfl
  · obtain ⟨p, g, F, h, _, rfl, hP, wf, hg, rfl, k⟩ := h
    obtain ⟨dx, ta, pa, as, hF, h1, h2, h4, h3⟩ := hP.tab
    refine ⟨_, pss_one (ps_ret (pe_lst (pa_cons (pcall c hr (Nat.le_refl _) rfl (pa_cons (pe_fld (pv 0) rfl) pa_nil)) pa_nil))), ?_⟩
    refine ⟨_, rfl, p, C, dx, _, _, rfl, h1, T.cl, T.nT, pf_tab _ _, ta, h, rfl, ⟨_, SqL.of h2, pr_map h4⟩, wf, fun H' s1 => ⟨one_le, fun r hr => ?_⟩⟩
    exact k _ F r (fin9 (hP.same s1) (Chg.of_same s1) hr) upd_same
def aFeeds (h : House) (l : List Nat) : List Int := toZ ((feedM h (l.getD 0 0)).length :: feedM h (l.getD 0 0))
def nFeeds : List Str := ["plant", "given", "acting"]
theorem feed_few (h : House) (i : Nat) : (feedM h i).length ≤ h.n := Nat.le_trans (List.length_filter_le _ _) (by unfold House.qs; simp)
theorem k_feeds (F : Fun K "feeds" "feeds" dFeeds f fd) (T : Txt K C) (B : Blt mg) (m : MCal P w K mg base C 1 "acting_on" ["self", "quantity"] (spFeed C)) : Cmd P w K mg base 2 f (spCmd K C qOne pSame aFeeds) := by
  have sc : FnScope nFeeds nCmd (defScope dFeeds) := ⟨rfl, rfl, rfl, by decide +kernel, rfl, by decide +kernel, by decide +kernel⟩
  refine ⟨fd, F.ok sc (fun vs H Q E h => ?_) (fun cdv A outer s H vs Q E hr h => ?_), F.kp, F.binds fun _ _ _ _ _ _ us hl => match us, hl with | [_, _], _ => rfl⟩
  · obtain ⟨_, _, _, _, _, rfl, _⟩ := h; rfl
  · obtain ⟨p, g, F, h, _, rfl, hP, wf, hg, ⟨i, rfl, hi⟩, k⟩ := h
    obtain ⟨dx, ta, pa, as, hF, h1, h2, h4, h3⟩ := hP.tab
    have hn := wf.n5
    have hff := feed_few h i
    refine ⟨_, pss_cons (ps_set (i := 2) sc.nd rfl (Or.inl rfl) (pmeth m T hr (Nat.le_refl _) (pv 0) (pa_cons (pe_ix ix_list (pv 1) pe_int (fun _ _ => rfl)) pa_nil)))
      (pss_one (ps_ret (pe_op op_cat (pe_lst (pa_cons (pe_callB call_len_seq (by rfl) B.len PySem.boot_len (pa_cons (pv 2) pa_nil)) pa_nil)) (pv 2)))), ?_⟩
    refine ⟨_, rfl, p, dx, _, rfl, h1, pf_no _ _ (by decide +kernel) (by decide +kernel), _, rfl, g, _, _, _, rfl, rfl, hg, at_of (j := 0) rfl rfl, p, F, h, i, rfl, hP, wf, hi, fun H1 q s1 hq0 hq => ?_⟩
    refine ⟨_, rfl, q, _, rfl, .inl (SqL.of hq), one_le, fun p1 hp1 => ?_⟩
    have s2 : Same H1 (upd H1 p1 (.lst [V.int ((((feedM h i).map nV).length : Nat) : Int)])) := (Same.refl H1).upd hp1
    refine ⟨_, rfl, p1, q, _, _, rfl, rfl, upd_same, s2 _ _ hq, Nat.le_of_lt (small (by rw [List.length_map]; simp; omega)), fun r hr => ?_⟩
    refine k _ F r (fin9 (hP.same (s1.trans s2)) (Chg.of_same (s1.trans s2)) hr) ?_
    rw [upd_same, List.length_map]
    exact congrArg (fun z => some (HO.lst z)) (toZ_V ((feedM h i).length :: feedM h i)).symm
def aLook (h : House) (l : List Nat) : List Int := toZ (h.push.getD (l.getD 0 0) 1 :: h.on.getD (l.getD 0 0) [])
theorem k_look (F : Fun K "look" "look" dLook f fd) (T : Txt K C) : Cmd P w K mg base 1 f (spCmd K C qOne pSame aLook) := by
  have sc : FnScope nCmd nCmd (defScope dLook) := ⟨rfl, rfl, rfl, by decide +kernel, rfl, by decide +kernel, by decide +kernel⟩
  refine ⟨fd, F.ok sc (fun vs H Q E h => ?_) (fun cdv A outer s H vs Q E hr h => ?_), F.kp, F.binds fun _ _ _ _ _ _ us hl => match us, hl with | [_, _], _ => rfl⟩
  · obtain ⟨_, _, _, _, _, rfl, _⟩ := h; rfl
  · obtain ⟨p, g, F, h, _, rfl, hP, wf, hg, ⟨i, rfl, hi⟩, k⟩ := h
    obtain ⟨dx, ta, pa, as, hF, h1, h2, h4, h3⟩ := hP.tab
    have hn := wf.n5
    obtain ⟨a, ha⟩ : ∃ a, as[i]? = some a := ⟨_, List.getElem?_eq_getElem (by rw [rows_len h4, wf.len]; exact hi)⟩
    obtain ⟨row, hrow, hra⟩ := pr_get' h4 ha
    have hrl := (wf.sq row (List.mem_of_getElem? hrow)).1
    obtain ⟨x, hx⟩ : ∃ x, h.push[i]? = some x := ⟨_, List.getElem?_eq_getElem hi⟩
    have ex : h.push.getD i 1 = x := by rw [List.getD_eq_getElem?_getD, hx]; rfl
    have er : h.on.getD i [] = row := by rw [List.getD_eq_getElem?_getD, hrow]; rfl
    refine ⟨_, pss_one (ps_ret (pe_op op_cat (pe_lst (pa_cons (pe_ix ix_list (pe_fld (pv 0) rfl) (pe_ix ix_list (pv 1) pe_int (fun _ _ => rfl)) (fun _ _ => rfl)) pa_nil)) (pe_ix ix_list (pe_fld (pv 0) rfl) (pe_ix ix_list (pv 1) pe_int (fun _ _ => rfl)) (fun _ _ => rfl)))), ?_⟩
    refine ⟨_, rfl, p, C, dx, _, _, rfl, h1, T.cl, T.nP, pf_psh _ _, _, rfl, g, _, _, _, rfl, rfl, hg, at_of (j := 0) rfl rfl, pa, _, _, _, rfl, rfl, SqL.of h3, atI_nat (v := nV x) (by rw [List.getElem?_map, hx]; rfl), one_le, fun p1 hp1 => ?_⟩
    have s1 : Same H (upd H p1 (.lst [nV x])) := (Same.refl H).upd hp1
    refine ⟨_, rfl, p, C, dx, _, _, rfl, s1 _ _ h1, T.cl, T.nT, pf_tab _ _, _, rfl, g, _, _, _, rfl, rfl, s1.seq hg, at_of (j := 0) rfl rfl, ta, _, _, _, rfl, rfl, SqL.of (s1 _ _ h2), atI_nat (v := V.ref a) (by rw [List.getElem?_map, ha]; rfl), p1, a, _, _, rfl, rfl, upd_same, s1 _ _ hra, Nat.le_of_lt (small (by rw [List.length_map]; simp; omega)), fun r hr => ?_⟩
    refine k _ F r (fin9 (hP.same s1) (Chg.of_same s1) hr) ?_
    rw [upd_same]
    have e : aLook h [i] = toZ (x :: row) := by
      show toZ (h.push.getD i 1 :: h.on.getD i []) = _
      rw [ex, er]
    rw [e, toZ_V]; rfl
def sumM (h : House) (m : Nat) : List Nat := (List.range m).map fun i => (feedM h i).length
def aState (h : House) (l : List Nat) : List Int := toZ (h.n :: h.push ++ [(sumM h h.n).sum])
def nState : List Str := ["plant", "given", "actions", "quantity"]
theorem sum_toZ : ∀ l : List Nat, (toZ l).sum = ((l.sum : Nat) : Int)
  | [] => rfl
  | x :: l => by
    show (x : Int) + (toZ l).sum = _
    rw [sum_toZ l, List.sum_cons]; omega
theorem k_state (F : Fun K "state" "state" dState f fd) (T : Txt K C) (B : Blt mg) (mS : MCal P w K mg base C 1 "size" ["self"] (spSize C)) (m : MCal P w K mg base C 1 "acting_on" ["self", "quantity"] (spFeed C)) : Cmd P w K mg base 2 f (spCmd K C qNil pSame aState) := by
  have sc : FnScope nState nCmd (defScope dState) := ⟨rfl, rfl, rfl, by decide +kernel, rfl, by decide +kernel, by decide +kernel⟩
  refine ⟨fd, F.ok sc (fun vs H Q E h => ?_) (fun cdv A outer s H vs Q E hr h => ?_), F.kp, F.binds fun _ _ _ _ _ _ us hl => match us, hl with | [_, _], _ => rfl⟩
  · obtain ⟨_, _, _, _, _, rfl, _⟩ := h; rfl
  · obtain ⟨p, g, F, h, _, rfl, hP, wf, hg, rfl, k⟩ := h
    obtain ⟨dx, ta, pa, as, hF, h1, h2, h4, h3⟩ := hP.tab
    have hn := wf.n5
    refine ⟨_, pss_cons (ps_set (i := 2) sc.nd rfl (Or.inl rfl) (pe_callB (cr_sum rfl) (by rfl) B.sum (by decide +kernel) (pa_cons (pe_lc (te := tLen K (tMeth C "acting_on" (spFeed C) [] (fun _ _ _ => False) (tVar 0) (tCons (tVar 3) tNil))) rfl sc.nd (pi_range1 rfl B.range (pa_cons (pmeth0 mS T hr (Nat.le_refl _) (pv 0)) pa_nil)) (blkOk_by (N := nState) (sc := defScope dState) (own := [("quantity", 3)]) (by decide +kernel)) (fun _ _ _ _ _ => pg_name (i := 3) sc.nd rfl (Or.inl rfl) (Or.inr rfl))
        (fun _ _ _ _ _ => pts_nil) (fun _ _ _ _ _ => pe_callB call_len_seq (by rfl) B.len PySem.boot_len (pa_cons (pmeth m T hr (Nat.le_refl _) (pv 0) (pa_cons (pv 3) pa_nil)) pa_nil))) pa_nil)))
      (pss_one (ps_ret (pe_op op_cat (pe_op op_cat (pe_lst (pa_cons (pmeth0 mS T hr (Nat.le_refl _) (pv 0)) pa_nil)) (pe_fld (pv 0) rfl)) (pe_lst (pa_cons (pv 2) pa_nil))))), ?_⟩
    refine ⟨_, rfl, p, dx, _, rfl, h1, pf_no _ _ (by decide +kernel) (by decide +kernel), p, F, h, rfl, hP, by omega, (h.n : Int), rfl, by omega, by omega, fun D hD => lc_range (fun i H' => H' D = some (.lst ((sumM h i).map nV)) ∧ Same H H') ⟨upd_same, (Same.refl H).upd hD⟩ (fun i H' hi hp => ?_) fun H1 hp => ?_⟩
    · have hi : i < h.n := by omega
      refine ⟨rfl, tyes ⟨_, rfl, p, dx, _, rfl, hp.2 _ _ h1, pf_no _ _ (by decide +kernel) (by decide +kernel), _, rfl, p, F, h, i, by simp, hP.same hp.2, wf, hi, fun H2 q s2 hq0 hq => ⟨q, _, rfl, .inl (SqL.of hq), _, s2 _ _ hp.1, small (by unfold sumM; simp; omega), ?_, (hp.2.trans s2).upd hD⟩⟩⟩
      rw [upd_same, List.length_map]
      unfold sumM
      rw [List.range_succ, List.map_append, List.map_append]; rfl
    · obtain ⟨hD1, s1⟩ := hp
      rw [show ((h.n : Nat) : Int).toNat = h.n by omega] at hD1
      refine ⟨D, toZ (sumM h h.n), rfl, SqL.of (by rw [hD1, toZ_V]), ?_⟩
      rw [sum_toZ]
      refine ⟨_, rfl, p, dx, _, rfl, s1 _ _ h1, pf_no _ _ (by decide +kernel) (by decide +kernel), p, F, h, rfl, hP.same s1, by omega, one_le, fun p1 hp1 => ?_⟩
      have s2 := s1.upd (o := .lst [nV h.n]) (s1.free hp1)
      refine ⟨_, rfl, p, C, dx, _, _, rfl, s2 _ _ h1, T.cl, T.nP, pf_psh _ _, p1, pa, _, _, rfl, rfl, upd_same, s2 _ _ h3, Nat.le_of_lt (small (by rw [List.length_map]; show 1 + h.n ≤ _; omega)), fun p2 hp2 => ?_⟩
      have s3 := s2.upd (o := .lst ([nV h.n] ++ h.push.map nV)) (s2.free hp2)
      refine ⟨_, rfl, one_le, fun p3 hp3 => ?_⟩
      have s4 := s3.upd (o := .lst [V.int (((sumM h h.n).sum : Nat) : Int)]) (s3.free hp3)
      have n23 : p2 ≠ p3 := ne_of_none upd_same hp3
      refine ⟨p2, p3, _, _, rfl, rfl, by rw [upd_ne n23]; exact upd_same, upd_same, Nat.le_of_lt (small (by rw [List.length_append, List.length_map]; show 1 + h.n + 1 ≤ _; omega)), fun r hr => ?_⟩
      refine k _ F r (fin9 (hP.same s4) (Chg.of_same s4) hr) ?_
      rw [upd_same]
      have e : aState h [] = toZ (h.n :: h.push ++ [(sumM h h.n).sum]) := rfl
      rw [e, toZ_V, List.map_append]; rfl
end
end My


end
section
set_option Elab.async false
set_option linter.all false
set_option maxRecDepth 100000
set_option maxHeartbeats 1000000
namespace My
open PySem L2
open Kri4 (times turned turnedSet)
open Kri8 (House)
def iIdle : Info := ⟨"qq", false, qTwo, pSame, aIdle⟩
def iIdles : Info := ⟨"", false, qNil, pSame, aIdles⟩
def iPaths : Info := ⟨"qq", false, qTwo, pSame, aPaths⟩
def iPath : Info := ⟨"qqk", false, qPath, pSame, aPath⟩
def iLoops : Info := ⟨"", false, qNil, pSame, aLoops⟩
def iLoop : Info := ⟨"k", false, qAny1, pSame, aLoop⟩
def iThrough : Info := ⟨"q", false, qOne, pSame, aThrough⟩
def iSettles : Info := ⟨"", false, qNil, pSame, aSettles⟩
def iFeeds : Info := ⟨"q", false, qOne, pSame, aFeeds⟩
def iLook : Info := ⟨"q", false, qOne, pSame, aLook⟩
def iState : Info := ⟨"", false, qNil, pSame, aState⟩
theorem codes_qqk : (Str.ofString "qqk").cps.toList = [113, 113, 107] := by decide +kernel
theorem codes_k : (Str.ofString "k").cps.toList = [107] := by decide +kernel
theorem st_gen {c : Nat} {I : Info} {h : House} {l xs : List Nat} {a : Kri8.Ans} {bq : Bool} (wf : Wf h) (hc : ¬ c = 0) (hx : I.letters.cps.toList = xs) (hs : I.sure = false) (hq : ¬ h.n = 0 → aboveM xs l 113 ((h.n : Int) - 1) = bq) (hS : aboveM xs l 115 2 = false)
    (h0 : Kri8.act none (Kri8Neutral.call (rawC c l)) = (none, Kri8.say (-11))) (ha : Kri8.act (some h) (Kri8Neutral.call (rawC c l)) = (some h, if bq = true then Kri8.say (-2) else a)) (hp : ¬ h.n = 0 → bq = false → I.pre h l) (hpost : I.post h l = h)
    (hf : (I.ans h l).length ≤ 100) (hn : ¬ h.n = 0 → bq = false → Kri8Neutral.told a = I.ans h l) : StepOk c I h l := by
  by_cases h1 : h.n = 0
  · exact unbegun wf hc h1 h0
  · have hr := refuse_of (c := c) (I := I) (h := h) (l := l) hc h1 hx (hq h1) hS
    rw [if_neg (c := false = true) Bool.false_ne_true, if_neg (c := I.sure = true ∧ _) (fun z => by rw [hs] at z; cases z.1)] at hr
    cases bq with
    | true =>
      rw [if_pos rfl] at hr ha
      exact refused wf hr (by decide) (by rw [abs_some h1]; exact ha)
    | false =>
      rw [if_neg Bool.false_ne_true] at hr ha
      refine answered hr (hp h1 rfl) (by rw [hpost]; exact wf) hf (a := a) ?_ (hn h1 rfl)
      rw [hpost, abs_some h1]; exact ha
theorem or_lt {n j i : Nat} (h : (decide (n ≤ j) || decide (n ≤ i)) = false) : j < n ∧ i < n := by
  rw [Bool.or_eq_false_iff] at h
  have h1 := of_decide_eq_false h.1
  have h2 := of_decide_eq_false h.2
  omega
theorem one_lt' {n j : Nat} (h : decide (n ≤ j) = false) : j < n := by
  have h1 := of_decide_eq_false h
  omega
theorem ab1 {h : House} (hn : ¬ h.n = 0) (i : Nat) : aboveM [113] [i] 113 ((h.n : Int) - 1) = decide (h.n ≤ i) := by
  simp only [above_cons, above_nil, no_eq hn]; simp
theorem ab2 {h : House} (hn : ¬ h.n = 0) (j i : Nat) : aboveM [113, 113] [j, i] 113 ((h.n : Int) - 1) = (decide (h.n ≤ j) || decide (h.n ≤ i)) := by
  simp only [above_cons, above_nil, no_eq hn]; simp
theorem ab3 {h : House} (hn : ¬ h.n = 0) (j i k : Nat) : aboveM [113, 113, 107] [j, i, k] 113 ((h.n : Int) - 1) = (decide (h.n ≤ j) || decide (h.n ≤ i)) := by
  simp only [above_cons, above_nil, no_eq hn]; simp
theorem st_idle {h : House} (wf : Wf h) (j i : Nat) : StepOk 11 iIdle h [j, i] := by
  refine st_gen (a := Kri8.say (if h.idle i j then 1 else 0)) wf (by decide) codes_qq rfl (fun hn => ab2 hn j i) rfl rfl ?_ (fun _ hb => ⟨j, i, rfl, (or_lt hb).1, (or_lt hb).2⟩) rfl (by show (1 : Nat) ≤ 100; decide) fun _ _ => rfl
  show Kri8.act (some h) (.idle ((j : Int).toNat) ((i : Int).toNat)) = _
  rw [Int.toNat_natCast, Int.toNat_natCast]; rfl
theorem pairs_few {h : House} (hn : h.n ≤ 5) : (pairsM h).length ≤ 25 := by
  have := flat_le (rowM_len h) h.qs
  have e : h.qs.length = h.n := by unfold House.qs; simp
  rw [e] at this
  have := Nat.mul_le_mul hn hn
  unfold pairsM
  omega
theorem toZ_len (l : List Nat) : (toZ l).length = l.length := by unfold toZ; rw [List.length_map]
theorem st_idles {h : House} (wf : Wf h) : StepOk 12 iIdles h [] := by
  refine st_gen (bq := false) (a := { num := ((pairsM h).length : Int), nums := (pairsM h).flatMap fun x => [(x.1 : Int), (x.2 : Int)] }) wf (by decide) codes_ rfl (fun _ => rfl) rfl rfl rfl (fun _ _ => rfl) rfl ?_ fun _ _ => ?_
  · show (aIdles h []).length ≤ 100
    unfold aIdles
    rw [toZ_len, List.length_cons]
    have h1 := pairs_few wf.n5
    have h2 := Ord.flat_len_le (f := twoM) (n := 2) (pairsM h) fun _ _ => Nat.le_refl 2
    omega
  · show ((pairsM h).length : Int) :: (pairsM h).flatMap (fun x => [(x.1 : Int), (x.2 : Int)]) = toZ ((pairsM h).length :: (pairsM h).flatMap twoM)
    unfold toZ
    rw [List.map_cons, List.map_flatMap]; rfl
theorem cnt_told (xs : List (Nat × List Nat)) (l : List Nat) (e : xs.map (·.1) = l) : Kri8Neutral.told (Kri8.counted l) = toZ (cntM xs) := by
  subst e
  show ((xs.map (·.1)).length : Int) :: _ = _
  rw [List.length_map]; rfl
theorem st_paths {h : House} (wf : Wf h) (u v : Nat) : StepOk 13 iPaths h [u, v] := by
  refine st_gen (a := Kri8.counted ((h.paths u v).map fun r => h.sign r)) wf (by decide) codes_qq rfl (fun hn => ab2 hn u v) rfl rfl ?_ (fun _ hb => ⟨u, v, rfl, (or_lt hb).1, (or_lt hb).2⟩) rfl (by show (3 : Nat) ≤ 100; decide) fun _ _ => ?_
  · show Kri8.act (some h) (.paths ((u : Int).toNat) ((v : Int).toNat)) = _
    rw [Int.toNat_natCast, Int.toNat_natCast]; rfl
  · refine cnt_told (pathsM h u v) _ ?_
    unfold pathsM
    rw [List.map_map]; rfl
def wayAns (x : Option (Nat × List Nat)) : Kri8.Ans := match x with
  | none => Kri8.say (-33)
  | some x => { num := (x.1 : Int), nums := Kri8.ints x.2 }
theorem way_told (xs : List (Nat × List Nat)) (k : Nat) : Kri8Neutral.told (wayAns xs[k]?) = choM xs k := by
  unfold choM wayAns
  cases xs[k]? <;> rfl
theorem cho_few {xs : List (Nat × List Nat)} (h : ∀ x ∈ xs, x.2.length ≤ 5) (k : Nat) : (choM xs k).length ≤ 100 := by
  unfold choM
  cases hx : xs[k]? with
  | none => show (1 : Nat) ≤ 100; decide
  | some x =>
    have := h x (List.mem_of_getElem? hx)
    show (x.2.map _).length + 1 ≤ 100
    rw [List.length_map]; omega
theorem st_path {h : House} (wf : Wf h) (u v k : Nat) : StepOk 14 iPath h [u, v, k] := by
  refine st_gen (a := wayAns (pathsM h u v)[k]?) wf (by decide) codes_qqk rfl (fun hn => ab3 hn u v k) rfl rfl ?_ (fun _ hb => ⟨u, v, k, rfl, (or_lt hb).1, (or_lt hb).2⟩) rfl (cho_few (path_short wf.n5 u v) k) fun _ _ => way_told _ _
  show Kri8.act (some h) (.path ((u : Int).toNat) ((v : Int).toNat) ((k : Int).toNat)) = _
  rw [Int.toNat_natCast, Int.toNat_natCast, Int.toNat_natCast]
  unfold pathsM
  rw [List.getElem?_map]
  show (some h, if (decide (h.n ≤ u) || decide (h.n ≤ v)) = true then Kri8.say (-2) else match (h.paths u v)[k]? with | none => Kri8.say (-33) | some r => { num := h.sign r, nums := Kri8.ints r }) = _
  cases (h.paths u v)[k]? <;> rfl
theorem st_loops {h : House} (wf : Wf h) : StepOk 15 iLoops h [] := by
  refine st_gen (bq := false) (a := Kri8.counted (h.loops.map fun r => h.loopSign r)) wf (by decide) codes_ rfl (fun _ => rfl) rfl rfl rfl (fun _ _ => rfl) rfl (by show (3 : Nat) ≤ 100; decide) fun _ _ => ?_
  refine cnt_told (loopsM h) _ ?_
  unfold loopsM
  rw [List.map_map]; rfl
theorem st_loop {h : House} (wf : Wf h) (k : Nat) : StepOk 16 iLoop h [k] := by
  refine st_gen (bq := false) (a := wayAns (loopsM h)[k]?) wf (by decide) codes_k rfl (fun _ => rfl) rfl rfl ?_ (fun _ _ => ⟨k, rfl⟩) rfl (cho_few (loop_short wf.n5) k) fun _ _ => way_told _ _
  show Kri8.act (some h) (.loop ((k : Int).toNat)) = _
  rw [Int.toNat_natCast]
  unfold loopsM
  rw [List.getElem?_map]
  show (some h, match h.loops[k]? with | none => Kri8.say (-33) | some r => { num := h.loopSign r, nums := Kri8.ints r }) = _
  cases h.loops[k]? <;> rfl
theorem st_through {h : House} (wf : Wf h) (i : Nat) : StepOk 17 iThrough h [i] := by
  refine st_gen (a := Kri8.counted ((h.loops.filter fun r => r.contains i).map fun r => h.loopSign r)) wf (by decide) codes_q rfl (fun hn => ab1 hn i) rfl rfl ?_ (fun _ hb => ⟨i, rfl, one_lt' hb⟩) rfl (by show (3 : Nat) ≤ 100; decide) fun _ _ => ?_
  · show Kri8.act (some h) (.through ((i : Int).toNat)) = _
    rw [Int.toNat_natCast]; rfl
  · refine cnt_told (thrM h i) _ ?_
    unfold thrM loopsM
    rw [List.filter_map, List.map_map]; rfl
theorem st_settles {h : House} (wf : Wf h) : StepOk 18 iSettles h [] :=
  st_gen (bq := false) (a := Kri8.say h.settles) wf (by decide) codes_ rfl (fun _ => rfl) rfl rfl rfl (fun _ _ => rfl) rfl (by show (1 : Nat) ≤ 100; decide) fun _ _ => rfl
theorem st_feeds {h : House} (wf : Wf h) (i : Nat) : StepOk 19 iFeeds h [i] := by
  refine st_gen (a := Kri8.list (h.qs.filter fun j => h.acts j i)) wf (by decide) codes_q rfl (fun hn => ab1 hn i) rfl rfl ?_ (fun _ hb => ⟨i, rfl, one_lt' hb⟩) rfl ?_ fun _ _ => rfl
  · show Kri8.act (some h) (.feeds ((i : Int).toNat)) = _
    rw [Int.toNat_natCast]; rfl
  · show (toZ ((feedM h i).length :: feedM h i)).length ≤ 100
    rw [toZ_len, List.length_cons]
    have := feed_few h i
    have := wf.n5
    omega
theorem row_is {h : House} (wf : Wf h) {i : Nat} (hi : i < h.n) : h.on.getD i [] = h.qs.map fun j => h.at_ i j := by
  rw [tab_self wf, List.getD_eq_getElem?_getD, tab_row _ hi]; rfl
theorem st_look {h : House} (wf : Wf h) (i : Nat) : StepOk 20 iLook h [i] := by
  refine st_gen (a := { num := (h.push.getD i 1 : Int), nums := Kri8.ints (h.qs.map fun j => h.at_ i j) }) wf (by decide) codes_q rfl (fun hn => ab1 hn i) rfl rfl ?_ (fun _ hb => ⟨i, rfl, one_lt' hb⟩) rfl ?_ fun _ hb => ?_
  · show Kri8.act (some h) (.look ((i : Int).toNat)) = _
    rw [Int.toNat_natCast]; rfl
  · show (toZ (h.push.getD i 1 :: h.on.getD i [])).length ≤ 100
    rw [toZ_len, List.length_cons]
    have h1 : (h.on.getD i []).length ≤ 5 := by
      rw [List.getD_eq_getElem?_getD]
      cases e : h.on[i]? with
      | none => exact Nat.zero_le _
      | some row =>
        have := (wf.sq row (List.mem_of_getElem? e)).1
        have := wf.n5
        show row.length ≤ 5
        omega
    omega
  · show (h.push.getD i 1 : Int) :: Kri8.ints (h.qs.map fun j => h.at_ i j) = toZ (h.push.getD i 1 :: h.on.getD i [])
    rw [row_is wf (one_lt' hb)]; rfl
theorem st_state {h : House} (wf : Wf h) : StepOk 21 iState h [] := by
  refine st_gen (bq := false) (a := { num := (h.n : Int), nums := Kri8.ints (h.push ++ [((h.qs.flatMap fun i => h.qs.filter fun j => h.acts j i)).length]) }) wf (by decide) codes_ rfl (fun _ => rfl) rfl rfl rfl (fun _ _ => rfl) rfl ?_ fun _ _ => ?_
  · show (toZ (h.n :: h.push ++ [(sumM h h.n).sum])).length ≤ 100
    rw [toZ_len, List.length_append, List.length_cons]
    have := wf.n5
    have : h.push.length = h.n := rfl
    simp; omega
  · show (h.n : Int) :: Kri8.ints (h.push ++ [((h.qs.flatMap fun i => h.qs.filter fun j => h.acts j i)).length]) = toZ (h.n :: h.push ++ [(sumM h h.n).sum])
    rw [List.length_flatMap]; rfl
def infos : List Info := [iBegin, iAction, iPush, iCalm, iTurn, iDet, iEnds, iAll, iIf, iRow, iWithout, iIdle, iIdles, iPaths, iPath, iLoops, iLoop, iThrough, iSettles, iFeeds, iLook, iState]
theorem len0 {P : List Nat → Prop} (h : P []) (l : List Nat) (e : l.length = 0) : P l := by rw [List.length_eq_zero_iff.mp e]; exact h
theorem len1 {P : List Nat → Prop} (h : ∀ a, P [a]) : ∀ l : List Nat, l.length = 1 → P l
  | [a], _ => h a
theorem len2 {P : List Nat → Prop} (h : ∀ a b, P [a, b]) : ∀ l : List Nat, l.length = 2 → P l
  | [a, b], _ => h a b
theorem len3 {P : List Nat → Prop} (h : ∀ a b c, P [a, b, c]) : ∀ l : List Nat, l.length = 3 → P l
  | [a, b, c], _ => h a b c
theorem no_shape (c : Nat) : PyKri8.shape ((c + 22 : Nat) : Int) = none := by
  unfold PyKri8.shape
  iterate 22 rw [if_neg (by omega)]
theorem sh {p : Int} {m n : Nat} (h : PyKri8.shape p = some (n, 0)) (e : PyKri8.shape p = some (m, 0)) : m = n := by
  rw [e] at h; injection h with h; injection h
theorem keeps : Keeps infos := by
  intro c n hs
  match c, hs with
  | 0, hs => obtain rfl := sh (m := 1) hs (by decide); exact ⟨iBegin, rfl, by decide +kernel, by decide +kernel, fun _ => rfl, fun l hl => len1 (P := fun l => PyKri8.whole (rawC 0 l) = rawC 0 l) (fun _ => rfl) l hl, fun h l wf hl => len1 (st_begin wf) l hl⟩
  | 1, hs => obtain rfl := sh (m := 3) hs (by decide); exact ⟨iAction, rfl, by decide +kernel, by decide +kernel, fun z => (by cases z), fun l hl => len3 (P := fun l => PyKri8.whole (rawC 1 l) = rawC 1 l) (fun _ _ _ => rfl) l hl, fun h l wf hl => len3 (st_action wf) l hl⟩
  | 2, hs => obtain rfl := sh (m := 2) hs (by decide); exact ⟨iPush, rfl, by decide +kernel, by decide +kernel, fun z => (by cases z), fun l hl => len2 (P := fun l => PyKri8.whole (rawC 2 l) = rawC 2 l) (fun _ _ => rfl) l hl, fun h l wf hl => len2 (st_push wf) l hl⟩
  | 3, hs => obtain rfl := sh (m := 0) hs (by decide); exact ⟨iCalm, rfl, by decide +kernel, by decide +kernel, fun z => (by cases z), fun l hl => len0 (P := fun l => PyKri8.whole (rawC 3 l) = rawC 3 l) rfl l hl, fun h l wf hl => len0 (st_calm wf) l hl⟩
  | 4, hs => obtain rfl := sh (m := 1) hs (by decide); exact ⟨iTurn, rfl, by decide +kernel, by decide +kernel, fun z => (by cases z), fun l hl => len1 (P := fun l => PyKri8.whole (rawC 4 l) = rawC 4 l) (fun _ => rfl) l hl, fun h l wf hl => len1 (st_turn wf) l hl⟩
  | 5, hs => obtain rfl := sh (m := 0) hs (by decide); exact ⟨iDet, rfl, by decide +kernel, by decide +kernel, fun z => (by cases z), fun l hl => len0 (P := fun l => PyKri8.whole (rawC 5 l) = rawC 5 l) rfl l hl, fun h l wf hl => len0 (st_det wf) l hl⟩
  | 6, hs => obtain rfl := sh (m := 1) hs (by decide); exact ⟨iEnds, rfl, by decide +kernel, by decide +kernel, fun z => (by cases z), fun l hl => len1 (P := fun l => PyKri8.whole (rawC 6 l) = rawC 6 l) (fun _ => rfl) l hl, fun h l wf hl => len1 (st_ends wf) l hl⟩
  | 7, hs => obtain rfl := sh (m := 0) hs (by decide); exact ⟨iAll, rfl, by decide +kernel, by decide +kernel, fun z => (by cases z), fun l hl => len0 (P := fun l => PyKri8.whole (rawC 7 l) = rawC 7 l) rfl l hl, fun h l wf hl => len0 (st_all wf) l hl⟩
  | 8, hs => obtain rfl := sh (m := 3) hs (by decide); exact ⟨iIf, rfl, by decide +kernel, by decide +kernel, fun z => (by cases z), fun l hl => len3 (P := fun l => PyKri8.whole (rawC 8 l) = rawC 8 l) (fun _ _ _ => rfl) l hl, fun h l wf hl => len3 (st_if wf) l hl⟩
  | 9, hs => obtain rfl := sh (m := 1) hs (by decide); exact ⟨iRow, rfl, by decide +kernel, by decide +kernel, fun z => (by cases z), fun l hl => len1 (P := fun l => PyKri8.whole (rawC 9 l) = rawC 9 l) (fun _ => rfl) l hl, fun h l wf hl => len1 (st_row wf) l hl⟩
  | 10, hs => obtain rfl := sh (m := 2) hs (by decide); exact ⟨iWithout, rfl, by decide +kernel, by decide +kernel, fun z => (by cases z), fun l hl => len2 (P := fun l => PyKri8.whole (rawC 10 l) = rawC 10 l) (fun _ _ => rfl) l hl, fun h l wf hl => len2 (st_without wf) l hl⟩
  | 11, hs => obtain rfl := sh (m := 2) hs (by decide); exact ⟨iIdle, rfl, by decide +kernel, by decide +kernel, fun z => (by cases z), fun l hl => len2 (P := fun l => PyKri8.whole (rawC 11 l) = rawC 11 l) (fun _ _ => rfl) l hl, fun h l wf hl => len2 (st_idle wf) l hl⟩
  | 12, hs => obtain rfl := sh (m := 0) hs (by decide); exact ⟨iIdles, rfl, by decide +kernel, by decide +kernel, fun z => (by cases z), fun l hl => len0 (P := fun l => PyKri8.whole (rawC 12 l) = rawC 12 l) rfl l hl, fun h l wf hl => len0 (st_idles wf) l hl⟩
  | 13, hs => obtain rfl := sh (m := 2) hs (by decide); exact ⟨iPaths, rfl, by decide +kernel, by decide +kernel, fun z => (by cases z), fun l hl => len2 (P := fun l => PyKri8.whole (rawC 13 l) = rawC 13 l) (fun _ _ => rfl) l hl, fun h l wf hl => len2 (st_paths wf) l hl⟩
  | 14, hs => obtain rfl := sh (m := 3) hs (by decide); exact ⟨iPath, rfl, by decide +kernel, by decide +kernel, fun z => (by cases z), fun l hl => len3 (P := fun l => PyKri8.whole (rawC 14 l) = rawC 14 l) (fun _ _ _ => rfl) l hl, fun h l wf hl => len3 (st_path wf) l hl⟩
  | 15, hs => obtain rfl := sh (m := 0) hs (by decide); exact ⟨iLoops, rfl, by decide +kernel, by decide +kernel, fun z => (by cases z), fun l hl => len0 (P := fun l => PyKri8.whole (rawC 15 l) = rawC 15 l) rfl l hl, fun h l wf hl => len0 (st_loops wf) l hl⟩
  | 16, hs => obtain rfl := sh (m := 1) hs (by decide); exact ⟨iLoop, rfl, by decide +kernel, by decide +kernel, fun z => (by cases z), fun l hl => len1 (P := fun l => PyKri8.whole (rawC 16 l) = rawC 16 l) (fun _ => rfl) l hl, fun h l wf hl => len1 (st_loop wf) l hl⟩
  | 17, hs => obtain rfl := sh (m := 1) hs (by decide); exact ⟨iThrough, rfl, by decide +kernel, by decide +kernel, fun z => (by cases z), fun l hl => len1 (P := fun l => PyKri8.whole (rawC 17 l) = rawC 17 l) (fun _ => rfl) l hl, fun h l wf hl => len1 (st_through wf) l hl⟩
  | 18, hs => obtain rfl := sh (m := 0) hs (by decide); exact ⟨iSettles, rfl, by decide +kernel, by decide +kernel, fun z => (by cases z), fun l hl => len0 (P := fun l => PyKri8.whole (rawC 18 l) = rawC 18 l) rfl l hl, fun h l wf hl => len0 (st_settles wf) l hl⟩
  | 19, hs => obtain rfl := sh (m := 1) hs (by decide); exact ⟨iFeeds, rfl, by decide +kernel, by decide +kernel, fun z => (by cases z), fun l hl => len1 (P := fun l => PyKri8.whole (rawC 19 l) = rawC 19 l) (fun _ => rfl) l hl, fun h l wf hl => len1 (st_feeds wf) l hl⟩
  | 20, hs => obtain rfl := sh (m := 1) hs (by decide); exact ⟨iLook, rfl, by decide +kernel, by decide +kernel, fun z => (by cases z), fun l hl => len1 (P := fun l => PyKri8.whole (rawC 20 l) = rawC 20 l) (fun _ => rfl) l hl, fun h l wf hl => len1 (st_look wf) l hl⟩
  | 21, hs => obtain rfl := sh (m := 0) hs (by decide); exact ⟨iState, rfl, by decide +kernel, by decide +kernel, fun z => (by cases z), fun l hl => len0 (P := fun l => PyKri8.whole (rawC 21 l) = rawC 21 l) rfl l hl, fun h l wf hl => len0 (st_state wf) l hl⟩
  | c + 22, hs => rw [no_shape] at hs; cases hs
end My


end
section
set_option Elab.async false
set_option linter.all false
set_option maxRecDepth 100000
set_option maxHeartbeats 4000000
namespace My
open PySem PySem.Spec PyProof.Rows L2
open Kri8 (House)
section
variable {K : PySem.W.Frag} {h : Heap} {mg : Str → Option Value}
theorem mkFun {x : Str} {st : Stmt} {f : Addr} {od an : Option Addr} {sl : Array (Option Value)} {oc kV dc pm cd ct : Value} (X : K.In h) (G : h.Ns mainGlobals mg) (a : PySem.W.nsIn K mainGlobals x = some (some (.ref f)))
    (l : K.lookup f = some ⟨oc, od, .func (PySem.W.fnOf x x (defArgs st) (defBody st) (defScope st) .none kV dc pm an cd ct), sl⟩) (c : PySem.W.codeIn K cd x = true) (k : PySem.W.keepIn K (.ref f) = true) : ∃ f fd, Fun K x x st f fd ∧ mg x = some (.ref f) :=
  ⟨f, _, fun_mk l c k, PySem.W.mg_of X G a⟩
theorem mkCst (X : K.In h) (G : h.Ns mainGlobals mg) {t0 : Tok} {t1 : Tok} {t2 : Tok} {t3 : Tok} {t4 : Tok} {t5 : Tok} {t6 : Tok} (g0 : PySem.W.nsIn K mainGlobals "BELOW" = some (some (.int 0 t0))) (g1 : PySem.W.nsIn K mainGlobals "NONE" = some (some (.int 1 t1))) (g2 : PySem.W.nsIn K mainGlobals "ABOVE" = some (some (.int 2 t2))) (g3 : PySem.W.nsIn K mainGlobals "ONLY_BELOW" = some (some (.int 1 t3))) (g4 : PySem.W.nsIn K mainGlobals "ONLY_NONE" = some (some (.int 2 t4))) (g5 : PySem.W.nsIn K mainGlobals "ONLY_ABOVE" = some (some (.int 4 t5))) (g6 : PySem.W.nsIn K mainGlobals "ALL_THREE" = some (some (.int 7 t6))) : Cst mg :=
  ⟨⟨_, PySem.W.mg_of X G g0⟩, ⟨_, PySem.W.mg_of X G g1⟩, ⟨_, PySem.W.mg_of X G g2⟩, ⟨_, PySem.W.mg_of X G g3⟩, ⟨_, PySem.W.mg_of X G g4⟩, ⟨_, PySem.W.mg_of X G g5⟩, ⟨_, PySem.W.mg_of X G g6⟩⟩
theorem mkCst2 (X : K.In h) (G : h.Ns mainGlobals mg) {t0 : Tok} {t1 : Tok} {t2 : Tok} {t3 : Tok} {t4 : Tok} {t5 : Tok} (g0 : PySem.W.nsIn K mainGlobals "NO_QUANTITY" = some (some (.int (-2) t0))) (g1 : PySem.W.nsIn K mainGlobals "NOT_BEGUN" = some (some (.int (-11) t1))) (g2 : PySem.W.nsIn K mainGlobals "NOT_RIGHT" = some (some (.int (-22) t2))) (g3 : PySem.W.nsIn K mainGlobals "NOT_SURE_OR_NONE" = some (some (.int (-33) t3))) (g4 : PySem.W.nsIn K mainGlobals "BEGIN" = some (some (.int 0 t4))) (g5 : PySem.W.nsIn K mainGlobals "MOST_QUANTITIES" = some (some (.int 5 t5))) : Cst2 mg :=
  ⟨⟨_, PySem.W.mg_of X G g0⟩, ⟨_, PySem.W.mg_of X G g1⟩, ⟨_, PySem.W.mg_of X G g2⟩, ⟨_, PySem.W.mg_of X G g3⟩, ⟨_, PySem.W.mg_of X G g4⟩, ⟨_, PySem.W.mg_of X G g5⟩⟩
theorem mkBlt (X : K.In h) (G : h.Ns mainGlobals mg) (g0 : PySem.W.nsIn K mainGlobals "len" = some none) (g1 : PySem.W.nsIn K mainGlobals "range" = some none) (g2 : PySem.W.nsIn K mainGlobals "enumerate" = some none) (g3 : PySem.W.nsIn K mainGlobals "zip" = some none) (g4 : PySem.W.nsIn K mainGlobals "any" = some none) (g5 : PySem.W.nsIn K mainGlobals "min" = some none) (g6 : PySem.W.nsIn K mainGlobals "sum" = some none) (g7 : PySem.W.nsIn K mainGlobals "sorted" = some none) : Blt mg :=
  ⟨PySem.W.mg_none_of X G g0, PySem.W.mg_none_of X G g1, PySem.W.mg_none_of X G g2, PySem.W.mg_none_of X G g3, PySem.W.mg_none_of X G g4, PySem.W.mg_none_of X G g5, PySem.W.mg_none_of X G g6, PySem.W.mg_none_of X G g7⟩
structure PlantTxt (K : PySem.W.Frag) (mg : Str → Option Value) (C : Addr) : Prop where
  txt : Txt K C
  mgC : mg "Plant" = some (.ref C)
  mks : PySem.W.makesIn K C = true
  kc : PySem.W.keepIn K (.ref C) = true
  m0 : ∃ f fd, Fun K "__init__" "Plant.__init__" mInit f fd ∧ Meth K C "__init__" f
  m1 : ∃ f fd, Fun K "begin" "Plant.begin" mBegin f fd ∧ Meth K C "begin" f
  m2 : ∃ f fd, Fun K "size" "Plant.size" mSize f fd ∧ Meth K C "size" f
  m3 : ∃ f fd, Fun K "set_action" "Plant.set_action" mAct f fd ∧ Meth K C "set_action" f
  m4 : ∃ f fd, Fun K "set_push" "Plant.set_push" mPush f fd ∧ Meth K C "set_push" f
  m5 : ∃ f fd, Fun K "calm" "Plant.calm" mCalm f fd ∧ Meth K C "calm" f
  m6 : ∃ f fd, Fun K "turn" "Plant.turn" mTurn f fd ∧ Meth K C "turn" f
  m7 : ∃ f fd, Fun K "acting_on" "Plant.acting_on" mFeed f fd ∧ Meth K C "acting_on" f
theorem mkPlant {C : Addr} {f0 : Addr} {od0 an0 : Option Addr} {sl0 : Array (Option Value)} {oc0 kV0 dc0 pm0 cd0 ct0 : Value} {f1 : Addr} {od1 an1 : Option Addr} {sl1 : Array (Option Value)} {oc1 kV1 dc1 pm1 cd1 ct1 : Value} {f2 : Addr} {od2 an2 : Option Addr} {sl2 : Array (Option Value)} {oc2 kV2 dc2 pm2 cd2 ct2 : Value} {f3 : Addr} {od3 an3 : Option Addr} {sl3 : Array (Option Value)} {oc3 kV3 dc3 pm3 cd3 ct3 : Value} {f4 : Addr} {od4 an4 : Option Addr} {sl4 : Array (Option Value)} {oc4 kV4 dc4 pm4 cd4 ct4 : Value} {f5 : Addr} {od5 an5 : Option Addr} {sl5 : Array (Option Value)} {oc5 kV5 dc5 pm5 cd5 ct5 : Value} {f6 : Addr} {od6 an6 : Option Addr} {sl6 : Array (Option Value)} {oc6 kV6 dc6 pm6 cd6 ct6 : Value} {f7 : Addr} {od7 an7 : Option Addr} {sl7 : Array (Option Value)} {oc7 kV7 dc7 pm7 cd7 ct7 : Value} (X : K.In h) (G : h.Ns mainGlobals mg) (aC : PySem.W.nsIn K mainGlobals "Plant" = some (some (.ref C)))
    (pg : PySem.W.plainGet K C Str.empty = true) (hd : PySem.W.hasDictIn K C = true) (po : PySem.W.plainOver K C = true) (sa : PySem.W.findIn K (.ref C) "__setattr__" = some (some (.builtin "object.__setattr__"))) (mk : PySem.W.makesIn K C = true) (kc : PySem.W.keepIn K (.ref C) = true) (n0 : PySem.W.findIn K (.ref C) "table" = some none) (n1 : PySem.W.findIn K (.ref C) "pushes" = some none)
    (a0 : PySem.W.findIn K (.ref C) "__init__" = some (some (.ref f0))) (i0 : PySem.W.isFn K (.ref f0) = true) (l0 : K.lookup f0 = some ⟨oc0, od0, .func (PySem.W.fnOf "__init__" "Plant.__init__" (defArgs mInit) (defBody mInit) (defScope mInit) .none kV0 dc0 pm0 an0 cd0 ct0), sl0⟩) (c0 : PySem.W.codeIn K cd0 "Plant.__init__" = true) (k0 : PySem.W.keepIn K (.ref f0) = true)
    (a1 : PySem.W.findIn K (.ref C) "begin" = some (some (.ref f1))) (i1 : PySem.W.isFn K (.ref f1) = true) (l1 : K.lookup f1 = some ⟨oc1, od1, .func (PySem.W.fnOf "begin" "Plant.begin" (defArgs mBegin) (defBody mBegin) (defScope mBegin) .none kV1 dc1 pm1 an1 cd1 ct1), sl1⟩) (c1 : PySem.W.codeIn K cd1 "Plant.begin" = true) (k1 : PySem.W.keepIn K (.ref f1) = true)
    (a2 : PySem.W.findIn K (.ref C) "size" = some (some (.ref f2))) (i2 : PySem.W.isFn K (.ref f2) = true) (l2 : K.lookup f2 = some ⟨oc2, od2, .func (PySem.W.fnOf "size" "Plant.size" (defArgs mSize) (defBody mSize) (defScope mSize) .none kV2 dc2 pm2 an2 cd2 ct2), sl2⟩) (c2 : PySem.W.codeIn K cd2 "Plant.size" = true) (k2 : PySem.W.keepIn K (.ref f2) = true)
    (a3 : PySem.W.findIn K (.ref C) "set_action" = some (some (.ref f3))) (i3 : PySem.W.isFn K (.ref f3) = true) (l3 : K.lookup f3 = some ⟨oc3, od3, .func (PySem.W.fnOf "set_action" "Plant.set_action" (defArgs mAct) (defBody mAct) (defScope mAct) .none kV3 dc3 pm3 an3 cd3 ct3), sl3⟩) (c3 : PySem.W.codeIn K cd3 "Plant.set_action" = true) (k3 : PySem.W.keepIn K (.ref f3) = true)
    (a4 : PySem.W.findIn K (.ref C) "set_push" = some (some (.ref f4))) (i4 : PySem.W.isFn K (.ref f4) = true) (l4 : K.lookup f4 = some ⟨oc4, od4, .func (PySem.W.fnOf "set_push" "Plant.set_push" (defArgs mPush) (defBody mPush) (defScope mPush) .none kV4 dc4 pm4 an4 cd4 ct4), sl4⟩) (c4 : PySem.W.codeIn K cd4 "Plant.set_push" = true) (k4 : PySem.W.keepIn K (.ref f4) = true)
    (a5 : PySem.W.findIn K (.ref C) "calm" = some (some (.ref f5))) (i5 : PySem.W.isFn K (.ref f5) = true) (l5 : K.lookup f5 = some ⟨oc5, od5, .func (PySem.W.fnOf "calm" "Plant.calm" (defArgs mCalm) (defBody mCalm) (defScope mCalm) .none kV5 dc5 pm5 an5 cd5 ct5), sl5⟩) (c5 : PySem.W.codeIn K cd5 "Plant.calm" = true) (k5 : PySem.W.keepIn K (.ref f5) = true)
    (a6 : PySem.W.findIn K (.ref C) "turn" = some (some (.ref f6))) (i6 : PySem.W.isFn K (.ref f6) = true) (l6 : K.lookup f6 = some ⟨oc6, od6, .func (PySem.W.fnOf "turn" "Plant.turn" (defArgs mTurn) (defBody mTurn) (defScope mTurn) .none kV6 dc6 pm6 an6 cd6 ct6), sl6⟩) (c6 : PySem.W.codeIn K cd6 "Plant.turn" = true) (k6 : PySem.W.keepIn K (.ref f6) = true)
    (a7 : PySem.W.findIn K (.ref C) "acting_on" = some (some (.ref f7))) (i7 : PySem.W.isFn K (.ref f7) = true) (l7 : K.lookup f7 = some ⟨oc7, od7, .func (PySem.W.fnOf "acting_on" "Plant.acting_on" (defArgs mFeed) (defBody mFeed) (defScope mFeed) .none kV7 dc7 pm7 an7 cd7 ct7), sl7⟩) (c7 : PySem.W.codeIn K cd7 "Plant.acting_on" = true) (k7 : PySem.W.keepIn K (.ref f7) = true) : ∃ C, PlantTxt K mg C :=
  ⟨C, ⟨⟨⟨pg, hd, po, sa⟩, n0, n1⟩, PySem.W.mg_of X G aC, mk, kc, ⟨f0, _, fun_mk l0 c0 k0, a0, i0, k0⟩, ⟨f1, _, fun_mk l1 c1 k1, a1, i1, k1⟩, ⟨f2, _, fun_mk l2 c2 k2, a2, i2, k2⟩, ⟨f3, _, fun_mk l3 c3 k3, a3, i3, k3⟩, ⟨f4, _, fun_mk l4 c4 k4, a4, i4, k4⟩, ⟨f5, _, fun_mk l5 c5 k5, a5, i5, k5⟩, ⟨f6, _, fun_mk l6 c6 k6, a6, i6, k6⟩, ⟨f7, _, fun_mk l7 c7 k7, a7, i7, k7⟩⟩⟩
structure TabTxt (K : PySem.W.Frag) (mg : Str → Option Value) (d : Addr) (b0 b1 b2 b3 b4 b5 b6 b7 b8 b9 b10 b11 b12 b13 b14 b15 b16 b17 b18 b19 b20 b21 : Addr) : Prop where
  mgD : mg "CALLS" = some (.ref d)
  tab : TabOk K d [b0, b1, b2, b3, b4, b5, b6, b7, b8, b9, b10, b11, b12, b13, b14, b15, b16, b17, b18, b19, b20, b21]
  r0 : ∃ f fd, RowOk K b0 f "n" false ∧ Fun K "begin" "begin" dBegin f fd
  r1 : ∃ f fd, RowOk K b1 f "qqs" false ∧ Fun K "action" "action" dAction f fd
  r2 : ∃ f fd, RowOk K b2 f "qs" false ∧ Fun K "push" "push" dPush f fd
  r3 : ∃ f fd, RowOk K b3 f "" false ∧ Fun K "calm" "calm" dCalm f fd
  r4 : ∃ f fd, RowOk K b4 f "q" false ∧ Fun K "turn" "turn" dTurn f fd
  r5 : ∃ f fd, RowOk K b5 f "" false ∧ Fun K "det" "det" dDet f fd
  r6 : ∃ f fd, RowOk K b6 f "q" true ∧ Fun K "ends" "ends" dEnds f fd
  r7 : ∃ f fd, RowOk K b7 f "" true ∧ Fun K "all_ends" "all_ends" dAll f fd
  r8 : ∃ f fd, RowOk K b8 f "qsq" true ∧ Fun K "if_pushed" "if_pushed" dIf f fd
  r9 : ∃ f fd, RowOk K b9 f "q" true ∧ Fun K "row" "row" dRow f fd
  r10 : ∃ f fd, RowOk K b10 f "qq" false ∧ Fun K "without" "without" dWithout f fd
  r11 : ∃ f fd, RowOk K b11 f "qq" false ∧ Fun K "idle" "idle" dIdle f fd
  r12 : ∃ f fd, RowOk K b12 f "" false ∧ Fun K "idles" "idles" dIdles f fd
  r13 : ∃ f fd, RowOk K b13 f "qq" false ∧ Fun K "paths" "paths" dPaths f fd
  r14 : ∃ f fd, RowOk K b14 f "qqk" false ∧ Fun K "path" "path" dPath f fd
  r15 : ∃ f fd, RowOk K b15 f "" false ∧ Fun K "loops" "loops" dLoops f fd
  r16 : ∃ f fd, RowOk K b16 f "k" false ∧ Fun K "loop" "loop" dLoop f fd
  r17 : ∃ f fd, RowOk K b17 f "q" false ∧ Fun K "through" "through" dThrough f fd
  r18 : ∃ f fd, RowOk K b18 f "" false ∧ Fun K "settles" "settles" dSettles f fd
  r19 : ∃ f fd, RowOk K b19 f "q" false ∧ Fun K "feeds" "feeds" dFeeds f fd
  r20 : ∃ f fd, RowOk K b20 f "q" false ∧ Fun K "look" "look" dLook f fd
  r21 : ∃ f fd, RowOk K b21 f "" false ∧ Fun K "state" "state" dState f fd
theorem mkTab {d : Addr} {ep : Nat} {b0 : Addr} {g0 : Int} {t0 u0 : Tok} {z0 : Nat} {v0 : Array (Option Value)} {b1 : Addr} {g1 : Int} {t1 u1 : Tok} {z1 : Nat} {v1 : Array (Option Value)} {b2 : Addr} {g2 : Int} {t2 u2 : Tok} {z2 : Nat} {v2 : Array (Option Value)} {b3 : Addr} {g3 : Int} {t3 u3 : Tok} {z3 : Nat} {v3 : Array (Option Value)} {b4 : Addr} {g4 : Int} {t4 u4 : Tok} {z4 : Nat} {v4 : Array (Option Value)} {b5 : Addr} {g5 : Int} {t5 u5 : Tok} {z5 : Nat} {v5 : Array (Option Value)} {b6 : Addr} {g6 : Int} {t6 u6 : Tok} {z6 : Nat} {v6 : Array (Option Value)} {b7 : Addr} {g7 : Int} {t7 u7 : Tok} {z7 : Nat} {v7 : Array (Option Value)} {b8 : Addr} {g8 : Int} {t8 u8 : Tok} {z8 : Nat} {v8 : Array (Option Value)} {b9 : Addr} {g9 : Int} {t9 u9 : Tok} {z9 : Nat} {v9 : Array (Option Value)} {b10 : Addr} {g10 : Int} {t10 u10 : Tok} {z10 : Nat} {v10 : Array (Option Value)} {b11 : Addr} {g11 : Int} {t11 u11 : Tok} {z11 : Nat} {v11 : Array (Option Value)} {b12 : Addr} {g12 : Int} {t12 u12 : Tok} {z12 : Nat} {v12 : Array (Option Value)} {b13 : Addr} {g13 : Int} {t13 u13 : Tok} {z13 : Nat} {v13 : Array (Option Value)} {b14 : Addr} {g14 : Int} {t14 u14 : Tok} {z14 : Nat} {v14 : Array (Option Value)} {b15 : Addr} {g15 : Int} {t15 u15 : Tok} {z15 : Nat} {v15 : Array (Option Value)} {b16 : Addr} {g16 : Int} {t16 u16 : Tok} {z16 : Nat} {v16 : Array (Option Value)} {b17 : Addr} {g17 : Int} {t17 u17 : Tok} {z17 : Nat} {v17 : Array (Option Value)} {b18 : Addr} {g18 : Int} {t18 u18 : Tok} {z18 : Nat} {v18 : Array (Option Value)} {b19 : Addr} {g19 : Int} {t19 u19 : Tok} {z19 : Nat} {v19 : Array (Option Value)} {b20 : Addr} {g20 : Int} {t20 u20 : Tok} {z20 : Nat} {v20 : Array (Option Value)} {b21 : Addr} {g21 : Int} {t21 u21 : Tok} {z21 : Nat} {v21 : Array (Option Value)} {f0 : Addr} {od0 an0 : Option Addr} {sl0 : Array (Option Value)} {oc0 kV0 dc0 pm0 cd0 ct0 : Value} {f1 : Addr} {od1 an1 : Option Addr} {sl1 : Array (Option Value)} {oc1 kV1 dc1 pm1 cd1 ct1 : Value} {f2 : Addr} {od2 an2 : Option Addr} {sl2 : Array (Option Value)} {oc2 kV2 dc2 pm2 cd2 ct2 : Value} {f3 : Addr} {od3 an3 : Option Addr} {sl3 : Array (Option Value)} {oc3 kV3 dc3 pm3 cd3 ct3 : Value} {f4 : Addr} {od4 an4 : Option Addr} {sl4 : Array (Option Value)} {oc4 kV4 dc4 pm4 cd4 ct4 : Value} {f5 : Addr} {od5 an5 : Option Addr} {sl5 : Array (Option Value)} {oc5 kV5 dc5 pm5 cd5 ct5 : Value} {f6 : Addr} {od6 an6 : Option Addr} {sl6 : Array (Option Value)} {oc6 kV6 dc6 pm6 cd6 ct6 : Value} {f7 : Addr} {od7 an7 : Option Addr} {sl7 : Array (Option Value)} {oc7 kV7 dc7 pm7 cd7 ct7 : Value} {f8 : Addr} {od8 an8 : Option Addr} {sl8 : Array (Option Value)} {oc8 kV8 dc8 pm8 cd8 ct8 : Value} {f9 : Addr} {od9 an9 : Option Addr} {sl9 : Array (Option Value)} {oc9 kV9 dc9 pm9 cd9 ct9 : Value} {f10 : Addr} {od10 an10 : Option Addr} {sl10 : Array (Option Value)} {oc10 kV10 dc10 pm10 cd10 ct10 : Value} {f11 : Addr} {od11 an11 : Option Addr} {sl11 : Array (Option Value)} {oc11 kV11 dc11 pm11 cd11 ct11 : Value} {f12 : Addr} {od12 an12 : Option Addr} {sl12 : Array (Option Value)} {oc12 kV12 dc12 pm12 cd12 ct12 : Value} {f13 : Addr} {od13 an13 : Option Addr} {sl13 : Array (Option Value)} {oc13 kV13 dc13 pm13 cd13 ct13 : Value} {f14 : Addr} {od14 an14 : Option Addr} {sl14 : Array (Option Value)} {oc14 kV14 dc14 pm14 cd14 ct14 : Value} {f15 : Addr} {od15 an15 : Option Addr} {sl15 : Array (Option Value)} {oc15 kV15 dc15 pm15 cd15 ct15 : Value} {f16 : Addr} {od16 an16 : Option Addr} {sl16 : Array (Option Value)} {oc16 kV16 dc16 pm16 cd16 ct16 : Value} {f17 : Addr} {od17 an17 : Option Addr} {sl17 : Array (Option Value)} {oc17 kV17 dc17 pm17 cd17 ct17 : Value} {f18 : Addr} {od18 an18 : Option Addr} {sl18 : Array (Option Value)} {oc18 kV18 dc18 pm18 cd18 ct18 : Value} {f19 : Addr} {od19 an19 : Option Addr} {sl19 : Array (Option Value)} {oc19 kV19 dc19 pm19 cd19 ct19 : Value} {f20 : Addr} {od20 an20 : Option Addr} {sl20 : Array (Option Value)} {oc20 kV20 dc20 pm20 cd20 ct20 : Value} {f21 : Addr} {od21 an21 : Option Addr} {sl21 : Array (Option Value)} {oc21 kV21 dc21 pm21 cd21 ct21 : Value} (X : K.In h) (G : h.Ns mainGlobals mg) (aD : PySem.W.nsIn K mainGlobals "CALLS" = some (some (.ref d)))
    (lD : K.lookup d = some ⟨.type "dict", none, .dict #[⟨g0, .int 0 t0, .ref b0⟩, ⟨g1, .int 1 t1, .ref b1⟩, ⟨g2, .int 2 t2, .ref b2⟩, ⟨g3, .int 3 t3, .ref b3⟩, ⟨g4, .int 4 t4, .ref b4⟩, ⟨g5, .int 5 t5, .ref b5⟩, ⟨g6, .int 6 t6, .ref b6⟩, ⟨g7, .int 7 t7, .ref b7⟩, ⟨g8, .int 8 t8, .ref b8⟩, ⟨g9, .int 9 t9, .ref b9⟩, ⟨g10, .int 10 t10, .ref b10⟩, ⟨g11, .int 11 t11, .ref b11⟩, ⟨g12, .int 12 t12, .ref b12⟩, ⟨g13, .int 13 t13, .ref b13⟩, ⟨g14, .int 14 t14, .ref b14⟩, ⟨g15, .int 15 t15, .ref b15⟩, ⟨g16, .int 16 t16, .ref b16⟩, ⟨g17, .int 17 t17, .ref b17⟩, ⟨g18, .int 18 t18, .ref b18⟩, ⟨g19, .int 19 t19, .ref b19⟩, ⟨g20, .int 20 t20, .ref b20⟩, ⟨g21, .int 21 t21, .ref b21⟩] ep, #[]⟩) (e0 : g0 = hashInt 0) (e1 : g1 = hashInt 1) (e2 : g2 = hashInt 2) (e3 : g3 = hashInt 3) (e4 : g4 = hashInt 4) (e5 : g5 = hashInt 5) (e6 : g6 = hashInt 6) (e7 : g7 = hashInt 7) (e8 : g8 = hashInt 8) (e9 : g9 = hashInt 9) (e10 : g10 = hashInt 10) (e11 : g11 = hashInt 11) (e12 : g12 = hashInt 12) (e13 : g13 = hashInt 13) (e14 : g14 = hashInt 14) (e15 : g15 = hashInt 15) (e16 : g16 = hashInt 16) (e17 : g17 = hashInt 17) (e18 : g18 = hashInt 18) (e19 : g19 = hashInt 19) (e20 : g20 = hashInt 20) (e21 : g21 = hashInt 21)
    (r0 : K.lookup b0 = some ⟨.type "tuple", none, .seq #[.ref f0, .str "n" u0, .bool false] z0, v0⟩) (l0 : K.lookup f0 = some ⟨oc0, od0, .func (PySem.W.fnOf "begin" "begin" (defArgs dBegin) (defBody dBegin) (defScope dBegin) .none kV0 dc0 pm0 an0 cd0 ct0), sl0⟩) (c0 : PySem.W.codeIn K cd0 "begin" = true) (k0 : PySem.W.keepIn K (.ref f0) = true)
    (r1 : K.lookup b1 = some ⟨.type "tuple", none, .seq #[.ref f1, .str "qqs" u1, .bool false] z1, v1⟩) (l1 : K.lookup f1 = some ⟨oc1, od1, .func (PySem.W.fnOf "action" "action" (defArgs dAction) (defBody dAction) (defScope dAction) .none kV1 dc1 pm1 an1 cd1 ct1), sl1⟩) (c1 : PySem.W.codeIn K cd1 "action" = true) (k1 : PySem.W.keepIn K (.ref f1) = true)
    (r2 : K.lookup b2 = some ⟨.type "tuple", none, .seq #[.ref f2, .str "qs" u2, .bool false] z2, v2⟩) (l2 : K.lookup f2 = some ⟨oc2, od2, .func (PySem.W.fnOf "push" "push" (defArgs dPush) (defBody dPush) (defScope dPush) .none kV2 dc2 pm2 an2 cd2 ct2), sl2⟩) (c2 : PySem.W.codeIn K cd2 "push" = true) (k2 : PySem.W.keepIn K (.ref f2) = true)
    (r3 : K.lookup b3 = some ⟨.type "tuple", none, .seq #[.ref f3, .str "" u3, .bool false] z3, v3⟩) (l3 : K.lookup f3 = some ⟨oc3, od3, .func (PySem.W.fnOf "calm" "calm" (defArgs dCalm) (defBody dCalm) (defScope dCalm) .none kV3 dc3 pm3 an3 cd3 ct3), sl3⟩) (c3 : PySem.W.codeIn K cd3 "calm" = true) (k3 : PySem.W.keepIn K (.ref f3) = true)
    (r4 : K.lookup b4 = some ⟨.type "tuple", none, .seq #[.ref f4, .str "q" u4, .bool false] z4, v4⟩) (l4 : K.lookup f4 = some ⟨oc4, od4, .func (PySem.W.fnOf "turn" "turn" (defArgs dTurn) (defBody dTurn) (defScope dTurn) .none kV4 dc4 pm4 an4 cd4 ct4), sl4⟩) (c4 : PySem.W.codeIn K cd4 "turn" = true) (k4 : PySem.W.keepIn K (.ref f4) = true)
    (r5 : K.lookup b5 = some ⟨.type "tuple", none, .seq #[.ref f5, .str "" u5, .bool false] z5, v5⟩) (l5 : K.lookup f5 = some ⟨oc5, od5, .func (PySem.W.fnOf "det" "det" (defArgs dDet) (defBody dDet) (defScope dDet) .none kV5 dc5 pm5 an5 cd5 ct5), sl5⟩) (c5 : PySem.W.codeIn K cd5 "det" = true) (k5 : PySem.W.keepIn K (.ref f5) = true)
    (r6 : K.lookup b6 = some ⟨.type "tuple", none, .seq #[.ref f6, .str "q" u6, .bool true] z6, v6⟩) (l6 : K.lookup f6 = some ⟨oc6, od6, .func (PySem.W.fnOf "ends" "ends" (defArgs dEnds) (defBody dEnds) (defScope dEnds) .none kV6 dc6 pm6 an6 cd6 ct6), sl6⟩) (c6 : PySem.W.codeIn K cd6 "ends" = true) (k6 : PySem.W.keepIn K (.ref f6) = true)
    (r7 : K.lookup b7 = some ⟨.type "tuple", none, .seq #[.ref f7, .str "" u7, .bool true] z7, v7⟩) (l7 : K.lookup f7 = some ⟨oc7, od7, .func (PySem.W.fnOf "all_ends" "all_ends" (defArgs dAll) (defBody dAll) (defScope dAll) .none kV7 dc7 pm7 an7 cd7 ct7), sl7⟩) (c7 : PySem.W.codeIn K cd7 "all_ends" = true) (k7 : PySem.W.keepIn K (.ref f7) = true)
    (r8 : K.lookup b8 = some ⟨.type "tuple", none, .seq #[.ref f8, .str "qsq" u8, .bool true] z8, v8⟩) (l8 : K.lookup f8 = some ⟨oc8, od8, .func (PySem.W.fnOf "if_pushed" "if_pushed" (defArgs dIf) (defBody dIf) (defScope dIf) .none kV8 dc8 pm8 an8 cd8 ct8), sl8⟩) (c8 : PySem.W.codeIn K cd8 "if_pushed" = true) (k8 : PySem.W.keepIn K (.ref f8) = true)
    (r9 : K.lookup b9 = some ⟨.type "tuple", none, .seq #[.ref f9, .str "q" u9, .bool true] z9, v9⟩) (l9 : K.lookup f9 = some ⟨oc9, od9, .func (PySem.W.fnOf "row" "row" (defArgs dRow) (defBody dRow) (defScope dRow) .none kV9 dc9 pm9 an9 cd9 ct9), sl9⟩) (c9 : PySem.W.codeIn K cd9 "row" = true) (k9 : PySem.W.keepIn K (.ref f9) = true)
    (r10 : K.lookup b10 = some ⟨.type "tuple", none, .seq #[.ref f10, .str "qq" u10, .bool false] z10, v10⟩) (l10 : K.lookup f10 = some ⟨oc10, od10, .func (PySem.W.fnOf "without" "without" (defArgs dWithout) (defBody dWithout) (defScope dWithout) .none kV10 dc10 pm10 an10 cd10 ct10), sl10⟩) (c10 : PySem.W.codeIn K cd10 "without" = true) (k10 : PySem.W.keepIn K (.ref f10) = true)
    (r11 : K.lookup b11 = some ⟨.type "tuple", none, .seq #[.ref f11, .str "qq" u11, .bool false] z11, v11⟩) (l11 : K.lookup f11 = some ⟨oc11, od11, .func (PySem.W.fnOf "idle" "idle" (defArgs dIdle) (defBody dIdle) (defScope dIdle) .none kV11 dc11 pm11 an11 cd11 ct11), sl11⟩) (c11 : PySem.W.codeIn K cd11 "idle" = true) (k11 : PySem.W.keepIn K (.ref f11) = true)
    (r12 : K.lookup b12 = some ⟨.type "tuple", none, .seq #[.ref f12, .str "" u12, .bool false] z12, v12⟩) (l12 : K.lookup f12 = some ⟨oc12, od12, .func (PySem.W.fnOf "idles" "idles" (defArgs dIdles) (defBody dIdles) (defScope dIdles) .none kV12 dc12 pm12 an12 cd12 ct12), sl12⟩) (c12 : PySem.W.codeIn K cd12 "idles" = true) (k12 : PySem.W.keepIn K (.ref f12) = true)
    (r13 : K.lookup b13 = some ⟨.type "tuple", none, .seq #[.ref f13, .str "qq" u13, .bool false] z13, v13⟩) (l13 : K.lookup f13 = some ⟨oc13, od13, .func (PySem.W.fnOf "paths" "paths" (defArgs dPaths) (defBody dPaths) (defScope dPaths) .none kV13 dc13 pm13 an13 cd13 ct13), sl13⟩) (c13 : PySem.W.codeIn K cd13 "paths" = true) (k13 : PySem.W.keepIn K (.ref f13) = true)
    (r14 : K.lookup b14 = some ⟨.type "tuple", none, .seq #[.ref f14, .str "qqk" u14, .bool false] z14, v14⟩) (l14 : K.lookup f14 = some ⟨oc14, od14, .func (PySem.W.fnOf "path" "path" (defArgs dPath) (defBody dPath) (defScope dPath) .none kV14 dc14 pm14 an14 cd14 ct14), sl14⟩) (c14 : PySem.W.codeIn K cd14 "path" = true) (k14 : PySem.W.keepIn K (.ref f14) = true)
    (r15 : K.lookup b15 = some ⟨.type "tuple", none, .seq #[.ref f15, .str "" u15, .bool false] z15, v15⟩) (l15 : K.lookup f15 = some ⟨oc15, od15, .func (PySem.W.fnOf "loops" "loops" (defArgs dLoops) (defBody dLoops) (defScope dLoops) .none kV15 dc15 pm15 an15 cd15 ct15), sl15⟩) (c15 : PySem.W.codeIn K cd15 "loops" = true) (k15 : PySem.W.keepIn K (.ref f15) = true)
    (r16 : K.lookup b16 = some ⟨.type "tuple", none, .seq #[.ref f16, .str "k" u16, .bool false] z16, v16⟩) (l16 : K.lookup f16 = some ⟨oc16, od16, .func (PySem.W.fnOf "loop" "loop" (defArgs dLoop) (defBody dLoop) (defScope dLoop) .none kV16 dc16 pm16 an16 cd16 ct16), sl16⟩) (c16 : PySem.W.codeIn K cd16 "loop" = true) (k16 : PySem.W.keepIn K (.ref f16) = true)
    (r17 : K.lookup b17 = some ⟨.type "tuple", none, .seq #[.ref f17, .str "q" u17, .bool false] z17, v17⟩) (l17 : K.lookup f17 = some ⟨oc17, od17, .func (PySem.W.fnOf "through" "through" (defArgs dThrough) (defBody dThrough) (defScope dThrough) .none kV17 dc17 pm17 an17 cd17 ct17), sl17⟩) (c17 : PySem.W.codeIn K cd17 "through" = true) (k17 : PySem.W.keepIn K (.ref f17) = true)
    (r18 : K.lookup b18 = some ⟨.type "tuple", none, .seq #[.ref f18, .str "" u18, .bool false] z18, v18⟩) (l18 : K.lookup f18 = some ⟨oc18, od18, .func (PySem.W.fnOf "settles" "settles" (defArgs dSettles) (defBody dSettles) (defScope dSettles) .none kV18 dc18 pm18 an18 cd18 ct18), sl18⟩) (c18 : PySem.W.codeIn K cd18 "settles" = true) (k18 : PySem.W.keepIn K (.ref f18) = true)
    (r19 : K.lookup b19 = some ⟨.type "tuple", none, .seq #[.ref f19, .str "q" u19, .bool false] z19, v19⟩) (l19 : K.lookup f19 = some ⟨oc19, od19, .func (PySem.W.fnOf "feeds" "feeds" (defArgs dFeeds) (defBody dFeeds) (defScope dFeeds) .none kV19 dc19 pm19 an19 cd19 ct19), sl19⟩) (c19 : PySem.W.codeIn K cd19 "feeds" = true) (k19 : PySem.W.keepIn K (.ref f19) = true)
    (r20 : K.lookup b20 = some ⟨.type "tuple", none, .seq #[.ref f20, .str "q" u20, .bool false] z20, v20⟩) (l20 : K.lookup f20 = some ⟨oc20, od20, .func (PySem.W.fnOf "look" "look" (defArgs dLook) (defBody dLook) (defScope dLook) .none kV20 dc20 pm20 an20 cd20 ct20), sl20⟩) (c20 : PySem.W.codeIn K cd20 "look" = true) (k20 : PySem.W.keepIn K (.ref f20) = true)
    (r21 : K.lookup b21 = some ⟨.type "tuple", none, .seq #[.ref f21, .str "" u21, .bool false] z21, v21⟩) (l21 : K.lookup f21 = some ⟨oc21, od21, .func (PySem.W.fnOf "state" "state" (defArgs dState) (defBody dState) (defScope dState) .none kV21 dc21 pm21 an21 cd21 ct21), sl21⟩) (c21 : PySem.W.codeIn K cd21 "state" = true) (k21 : PySem.W.keepIn K (.ref f21) = true) : ∃ d b0 b1 b2 b3 b4 b5 b6 b7 b8 b9 b10 b11 b12 b13 b14 b15 b16 b17 b18 b19 b20 b21, TabTxt K mg d b0 b1 b2 b3 b4 b5 b6 b7 b8 b9 b10 b11 b12 b13 b14 b15 b16 b17 b18 b19 b20 b21 :=
  ⟨d, b0, b1, b2, b3, b4, b5, b6, b7, b8, b9, b10, b11, b12, b13, b14, b15, b16, b17, b18, b19, b20, b21, ⟨PySem.W.mg_of X G aD, ⟨_, ep, lD, ⟨⟨t0, rfl⟩, e0, rfl, ⟨⟨t1, rfl⟩, e1, rfl, ⟨⟨t2, rfl⟩, e2, rfl, ⟨⟨t3, rfl⟩, e3, rfl, ⟨⟨t4, rfl⟩, e4, rfl, ⟨⟨t5, rfl⟩, e5, rfl, ⟨⟨t6, rfl⟩, e6, rfl, ⟨⟨t7, rfl⟩, e7, rfl, ⟨⟨t8, rfl⟩, e8, rfl, ⟨⟨t9, rfl⟩, e9, rfl, ⟨⟨t10, rfl⟩, e10, rfl, ⟨⟨t11, rfl⟩, e11, rfl, ⟨⟨t12, rfl⟩, e12, rfl, ⟨⟨t13, rfl⟩, e13, rfl, ⟨⟨t14, rfl⟩, e14, rfl, ⟨⟨t15, rfl⟩, e15, rfl, ⟨⟨t16, rfl⟩, e16, rfl, ⟨⟨t17, rfl⟩, e17, rfl, ⟨⟨t18, rfl⟩, e18, rfl, ⟨⟨t19, rfl⟩, e19, rfl, ⟨⟨t20, rfl⟩, e20, rfl, ⟨⟨t21, rfl⟩, e21, rfl, trivial⟩⟩⟩⟩⟩⟩⟩⟩⟩⟩⟩⟩⟩⟩⟩⟩⟩⟩⟩⟩⟩⟩⟩, ⟨f0, _, ⟨u0, z0, v0, r0⟩, fun_mk l0 c0 k0⟩, ⟨f1, _, ⟨u1, z1, v1, r1⟩, fun_mk l1 c1 k1⟩, ⟨f2, _, ⟨u2, z2, v2, r2⟩, fun_mk l2 c2 k2⟩, ⟨f3, _, ⟨u3, z3, v3, r3⟩, fun_mk l3 c3 k3⟩, ⟨f4, _, ⟨u4, z4, v4, r4⟩, fun_mk l4 c4 k4⟩, ⟨f5, _, ⟨u5, z5, v5, r5⟩, fun_mk l5 c5 k5⟩, ⟨f6, _, ⟨u6, z6, v6, r6⟩, fun_mk l6 c6 k6⟩, ⟨f7, _, ⟨u7, z7, v7, r7⟩, fun_mk l7 c7 k7⟩, ⟨f8, _, ⟨u8, z8, v8, r8⟩, fun_mk l8 c8 k8⟩, ⟨f9, _, ⟨u9, z9, v9, r9⟩, fun_mk l9 c9 k9⟩, ⟨f10, _, ⟨u10, z10, v10, r10⟩, fun_mk l10 c10 k10⟩, ⟨f11, _, ⟨u11, z11, v11, r11⟩, fun_mk l11 c11 k11⟩, ⟨f12, _, ⟨u12, z12, v12, r12⟩, fun_mk l12 c12 k12⟩, ⟨f13, _, ⟨u13, z13, v13, r13⟩, fun_mk l13 c13 k13⟩, ⟨f14, _, ⟨u14, z14, v14, r14⟩, fun_mk l14 c14 k14⟩, ⟨f15, _, ⟨u15, z15, v15, r15⟩, fun_mk l15 c15 k15⟩, ⟨f16, _, ⟨u16, z16, v16, r16⟩, fun_mk l16 c16 k16⟩, ⟨f17, _, ⟨u17, z17, v17, r17⟩, fun_mk l17 c17 k17⟩, ⟨f18, _, ⟨u18, z18, v18, r18⟩, fun_mk l18 c18 k18⟩, ⟨f19, _, ⟨u19, z19, v19, r19⟩, fun_mk l19 c19 k19⟩, ⟨f20, _, ⟨u20, z20, v20, r20⟩, fun_mk l20 c20 k20⟩, ⟨f21, _, ⟨u21, z21, v21, r21⟩, fun_mk l21 c21 k21⟩⟩⟩
end
end My


end
section
set_option Elab.async false
set_option linter.all false
set_option maxRecDepth 100000
set_option maxHeartbeats 4000000
namespace My
open PySem PySem.Spec PyProof.Rows L2
open Kri8 (House)
theorem asked_of {infos : List Info} (hk : Keeps infos) (l : List Int) (h0 : ∀ x ∈ l, 0 ≤ x) (ha : PyKri8.answers_asked l = true) : ∃ ns : List Nat, l = (ns.map fun (x : Nat) => (x : Int)) ∧ ∃ fu, Valid infos fu h00 ns ∧ runM infos fu h00 ns = PyKri8.answers l := by
  have hl : l = ((l.map Int.toNat).map fun (x : Nat) => (x : Int)) := by
    rw [List.map_map]
    refine (List.map_id l).symm.trans (List.map_congr_left fun x hx => ?_)
    show x = ((x.toNat : Nat) : Int)
    have := h0 x hx
    omega
  refine ⟨l.map Int.toNat, hl, l.length, ?_⟩
  unfold PyKri8.answers_asked at ha
  cases hr : PyFlat.calls PyKri8.shape l.length l with
  | none => rw [hr] at ha; cases ha
  | some raw =>
    have hr2 := hr
    rw [hl] at hr2
    rw [← hl] at hr2
    have hr3 : PyFlat.calls PyKri8.shape l.length ((l.map Int.toNat).map fun (x : Nat) => (x : Int)) = some raw := by rw [← hl]; exact hr
    obtain ⟨h1, h2⟩ := bridge hk l.length h00 (l.map Int.toNat) raw wf00 hr3
    refine ⟨h1, ?_⟩
    rw [h2]
    unfold PyKri8.answers PyKri8.calls
    rw [hr]; rfl
theorem asked_ok (l : List Int) (h0 : ∀ x ∈ l, 0 ≤ x) (ha : PyKri8.answers_asked l = true) : ∃ ns : List Nat, l = (ns.map fun (x : Nat) => (x : Int)) ∧ ∃ fu, Valid infos fu h00 ns ∧ runM infos fu h00 ns = PyKri8.answers l := asked_of keeps l h0 ha
theorem lift {P : Program} {w : World} {K : PySem.W.Frag} {mg : Str → Option Value} {base : Heap} {j : Nat} {f : Addr} {sp : Sp} (c : Cmd P w K mg base j f sp) (h : j ≤ 10) : Cmd P w K mg base 10 f sp := let ⟨fd, F, k, b⟩ := c; ⟨fd, F.mono h, k, b⟩
theorem ok_all {P : Program} {w : World} {K : PySem.W.Frag} {mg : Str → Option Value} {base : Heap} {C d b0 b1 b2 b3 b4 b5 b6 b7 b8 b9 b10 b11 b12 b13 b14 b15 b16 b17 b18 b19 b20 b21 f0 f1 f2 f3 f4 f5 f6 f7 f8 f9 f10 f11 f12 f13 f14 f15 f16 f17 f18 f19 f20 f21 f22 f23 f24 f25 : Addr} {fd0 fd1 fd2 fd3 fd4 fd5 fd6 fd7 fd8 fd9 fd10 fd11 fd12 fd13 fd14 fd15 fd16 fd17 fd18 fd19 fd20 fd21 fd22 fd23 fd24 fd25 : FuncData}
    (Cs : Cst mg) (C2 : Cst2 mg) (B : Blt mg) (PT : PlantTxt K mg C) (TT : TabTxt K mg d b0 b1 b2 b3 b4 b5 b6 b7 b8 b9 b10 b11 b12 b13 b14 b15 b16 b17 b18 b19 b20 b21)
    (F0 : Fun K "turned" "turned" sTurned f0 fd0) (g0 : mg "turned" = some (.ref f0))
    (F1 : Fun K "turned_set" "turned_set" sTset f1 fd1) (g1 : mg "turned_set" = some (.ref f1))
    (F2 : Fun K "times" "times" sTimes f2 fd2) (g2 : mg "times" = some (.ref f2))
    (F3 : Fun K "with_place" "with_place" sWith f3 fd3) (g3 : mg "with_place" = some (.ref f3))
    (F4 : Fun K "grown_sign" "grown_sign" sGrown f4 fd4) (g4 : mg "grown_sign" = some (.ref f4))
    (F5 : Fun K "term_signs" "term_signs" sTerms f5 fd5) (g5 : mg "term_signs" = some (.ref f5))
    (F6 : Fun K "determinant" "determinant" sDet f6 fd6) (g6 : mg "determinant" = some (.ref f6))
    (F7 : Fun K "is_sure" "is_sure" sSure f7 fd7) (g7 : mg "is_sure" = some (.ref f7))
    (F8 : Fun K "change" "change" sChange f8 fd8) (g8 : mg "change" = some (.ref f8))
    (F9 : Fun K "changes" "changes" sChs f9 fd9) (g9 : mg "changes" = some (.ref f9))
    (F10 : Fun K "one_push" "one_push" sOne f10 fd10) (g10 : mg "one_push" = some (.ref f10))
    (F11 : Fun K "table_without" "table_without" sWo f11 fd11) (g11 : mg "table_without" = some (.ref f11))
    (F12 : Fun K "outcome" "outcome" sOut f12 fd12) (g12 : mg "outcome" = some (.ref f12))
    (F13 : Fun K "is_idle" "is_idle" sIdle f13 fd13) (g13 : mg "is_idle" = some (.ref f13))
    (F14 : Fun K "idle_pairs" "idle_pairs" sPairs f14 fd14) (g14 : mg "idle_pairs" = some (.ref f14))
    (F15 : Fun K "paths_from" "paths_from" sFrom f15 fd15) (g15 : mg "paths_from" = some (.ref f15))
    (F16 : Fun K "walk_sign" "walk_sign" sWalk f16 fd16) (g16 : mg "walk_sign" = some (.ref f16))
    (F17 : Fun K "signed_paths" "signed_paths" sSP f17 fd17) (g17 : mg "signed_paths" = some (.ref f17))
    (F18 : Fun K "signed_loops" "signed_loops" sSL f18 fd18) (g18 : mg "signed_loops" = some (.ref f18))
    (F19 : Fun K "settling" "settling" sSet f19 fd19) (g19 : mg "settling" = some (.ref f19))
    (F20 : Fun K "counted" "counted" dCounted f20 fd20) (g20 : mg "counted" = some (.ref f20))
    (F21 : Fun K "chosen" "chosen" dChosen f21 fd21) (g21 : mg "chosen" = some (.ref f21))
    (F22 : Fun K "is_above" "is_above" dAbove f22 fd22) (g22 : mg "is_above" = some (.ref f22))
    (F23 : Fun K "refusal" "refusal" dRefusal f23 fd23) (g23 : mg "refusal" = some (.ref f23))
    (F24 : Fun K "answer" "answer" dAnswer f24 fd24) (g24 : mg "answer" = some (.ref f24))
    (F25 : Fun K "answers" "answers" dAnswers f25 fd25) : FnOk P w K mg base CX0 12 f25 fd25 ["calls"] (spAnswers K infos) := by
  have T := PT.txt
  have cU : Cal P w K mg base 1 "turned" ["sign"] spTurned := c_turned F0 g0 Cs
  have cS : Cal P w K mg base 1 "turned_set" ["signs"] spTset := c_tset F1 g1 Cs
  have cM : Cal P w K mg base 1 "times" ["one", "other"] spTimes := c_times F2 g2 Cs
  have cW : Cal P w K mg base 1 "with_place" ["whole", "place", "part"] (spWith K) := c_with F3 g3
  have cG := c_grown F4 g4 B cM cU
  have cT := c_terms F5 g5 Cs B cG
  have cD := c_det F6 g6 Cs cT
  have cQ : Cal P w K mg base 1 "is_sure" ["signs"] spSure := c_sure F7 g7 Cs
  have cC := c_change F8 g8 Cs B cW cU cD cS
  have cH := c_chs F9 g9 B cD cC
  have cO := c_one F10 g10 Cs cW
  have cX := c_wo F11 g11 Cs cW
  have cOut := c_out F12 g12 Cs B cD cQ cO cH
  have cI := c_idle F13 g13 Cs cOut cX
  have cP := c_pairs F14 g14 B cOut cI
  have cFr : Cal P w K mg base 1 "paths_from" ["table", "first"] (spFrom K) := c_from F15 g15 Cs B
  have cWk := c_walk F16 g16 Cs B cM
  have cSP := c_sp F17 g17 cFr cWk
  have cSL := c_sl F18 g18 Cs B cFr cWk
  have cSe := c_set F19 g19 Cs B cSL cD
  have cCn : Cal P w K mg base 1 "counted" ["ways"] (spCnt K) := c_cnt F20 g20 Cs B
  have cCh : Cal P w K mg base 1 "chosen" ["ways", "which"] (spCho K) := c_cho F21 g21 C2 B
  have cA : Cal P w K mg base 1 "is_above" ["letters", "given", "letter", "most"] (spAbove K) := c_above F22 g22 B
  obtain ⟨mf0, mfd0, M0, N0⟩ := PT.m0
  obtain ⟨mf1, mfd1, M1, N1⟩ := PT.m1
  obtain ⟨mf2, mfd2, M2, N2⟩ := PT.m2
  obtain ⟨mf3, mfd3, M3, N3⟩ := PT.m3
  obtain ⟨mf4, mfd4, M4, N4⟩ := PT.m4
  obtain ⟨mf5, mfd5, M5, N5⟩ := PT.m5
  obtain ⟨mf6, mfd6, M6, N6⟩ := PT.m6
  obtain ⟨mf7, mfd7, M7, N7⟩ := PT.m7
  have GI : FnOk P w K mg base CX0 1 mf0 mfd0 ["self"] (spInit C) := m_init M0 T
  have bI : Binds K mfd0 ["self"] [] := M0.binds fun _ _ _ _ _ _ us hl => match us, hl with | [_], _ => rfl
  have mB : MCal P w K mg base C 1 "begin" ["self", "number"] (spBegin C) := m_begin M1 N1 T Cs B
  have mS : MCal P w K mg base C 1 "size" ["self"] (spSize C) := m_size M2 N2 T B
  have mA : MCal P w K mg base C 1 "set_action" ["self", "acting", "upon", "sign"] (spAct C) := m_act M3 N3 T
  have mP : MCal P w K mg base C 1 "set_push" ["self", "quantity", "sign"] (spPush C) := m_push M4 N4 T
  have mC := m_calm M5 N5 T Cs B mS
  have mT := m_turn M6 N6 T B mS cU
  have mF : MCal P w K mg base C 1 "acting_on" ["self", "quantity"] (spFeed C) := m_feed M7 N7 T Cs B
  obtain ⟨rf0, rfd0, R0, D0⟩ := TT.r0
  obtain ⟨rf1, rfd1, R1, D1⟩ := TT.r1
  obtain ⟨rf2, rfd2, R2, D2⟩ := TT.r2
  obtain ⟨rf3, rfd3, R3, D3⟩ := TT.r3
  obtain ⟨rf4, rfd4, R4, D4⟩ := TT.r4
  obtain ⟨rf5, rfd5, R5, D5⟩ := TT.r5
  obtain ⟨rf6, rfd6, R6, D6⟩ := TT.r6
  obtain ⟨rf7, rfd7, R7, D7⟩ := TT.r7
  obtain ⟨rf8, rfd8, R8, D8⟩ := TT.r8
  obtain ⟨rf9, rfd9, R9, D9⟩ := TT.r9
  obtain ⟨rf10, rfd10, R10, D10⟩ := TT.r10
  obtain ⟨rf11, rfd11, R11, D11⟩ := TT.r11
  obtain ⟨rf12, rfd12, R12, D12⟩ := TT.r12
  obtain ⟨rf13, rfd13, R13, D13⟩ := TT.r13
  obtain ⟨rf14, rfd14, R14, D14⟩ := TT.r14
  obtain ⟨rf15, rfd15, R15, D15⟩ := TT.r15
  obtain ⟨rf16, rfd16, R16, D16⟩ := TT.r16
  obtain ⟨rf17, rfd17, R17, D17⟩ := TT.r17
  obtain ⟨rf18, rfd18, R18, D18⟩ := TT.r18
  obtain ⟨rf19, rfd19, R19, D19⟩ := TT.r19
  obtain ⟨rf20, rfd20, R20, D20⟩ := TT.r20
  obtain ⟨rf21, rfd21, R21, D21⟩ := TT.r21
  have tab : CTab P w K mg base C infos := ⟨d, _, TT.mgD, TT.tab, fun c I hI => by
    match c, hI with
    | 0, hI => cases hI; exact ⟨b0, rf0, rfl, R0, lift (k_begin D0 T mB) (by decide)⟩
    | 1, hI => cases hI; exact ⟨b1, rf1, rfl, R1, lift (k_action D1 T mA) (by decide)⟩
    | 2, hI => cases hI; exact ⟨b2, rf2, rfl, R2, lift (k_push D2 T mP) (by decide)⟩
    | 3, hI => cases hI; exact ⟨b3, rf3, rfl, R3, lift (k_calm D3 T mC) (by decide)⟩
    | 4, hI => cases hI; exact ⟨b4, rf4, rfl, R4, lift (k_turn D4 T mT) (by decide)⟩
    | 5, hI => cases hI; exact ⟨b5, rf5, rfl, R5, lift (k_det D5 T cD) (by decide)⟩
    | 6, hI => cases hI; exact ⟨b6, rf6, rfl, R6, lift (k_ends D6 T cC cD) (by decide)⟩
    | 7, hI => cases hI; exact ⟨b7, rf7, rfl, R7, lift (k_all D7 T mS cH) (by decide)⟩
    | 8, hI => cases hI; exact ⟨b8, rf8, rfl, R8, lift (k_if D8 T mS cO cD cC) (by decide)⟩
    | 9, hI => cases hI; exact ⟨b9, rf9, rfl, R9, lift (k_row D9 T Cs mS cO cH) (by decide)⟩
    | 10, hI => cases hI; exact ⟨b10, rf10, rfl, R10, lift (k_without D10 T cX cD) (by decide)⟩
    | 11, hI => cases hI; exact ⟨b11, rf11, rfl, R11, lift (k_idle D11 T cOut cI) (by decide)⟩
    | 12, hI => cases hI; exact ⟨b12, rf12, rfl, R12, lift (k_idles D12 T B cP) (by decide)⟩
    | 13, hI => cases hI; exact ⟨b13, rf13, rfl, R13, lift (k_paths D13 T cSP cCn) (by decide)⟩
    | 14, hI => cases hI; exact ⟨b14, rf14, rfl, R14, lift (k_path D14 T cSP cCh) (by decide)⟩
    | 15, hI => cases hI; exact ⟨b15, rf15, rfl, R15, lift (k_loops D15 T cSL cCn) (by decide)⟩
    | 16, hI => cases hI; exact ⟨b16, rf16, rfl, R16, lift (k_loop D16 T cSL cCh) (by decide)⟩
    | 17, hI => cases hI; exact ⟨b17, rf17, rfl, R17, lift (k_through D17 T cSL cCn) (by decide)⟩
    | 18, hI => cases hI; exact ⟨b18, rf18, rfl, R18, lift (k_settles D18 T cSe) (by decide)⟩
    | 19, hI => cases hI; exact ⟨b19, rf19, rfl, R19, lift (k_feeds D19 T B mF) (by decide)⟩
    | 20, hI => cases hI; exact ⟨b20, rf20, rfl, R20, lift (k_look D20 T) (by decide)⟩
    | 21, hI => cases hI; exact ⟨b21, rf21, rfl, R21, lift (k_state D21 T B mS mF) (by decide)⟩
    | c + 22, hI => simp [infos] at hI⟩
  have cR := c_refusal F23 g23 T Cs C2 tab mS cA cQ cD
  have cAn := c_answer F24 g24 tab cR
  exact c_answers F25 T B ⟨PT.mks, N0.at_, N0.fn, PT.kc⟩ PT.mgC GI bI tab cAn
end My


end
section
set_option Elab.async false
set_option linter.all false
set_option maxRecDepth 100000
set_option maxHeartbeats 4000000
def PySem.W.Fast.tw18200801479330525603 : Unit := ()
def PySem.W.Fast.tw18069528277166697173 : Unit := ()
def PySem.W.Fast.tw35027440332636295 : Unit := ()
def PySem.W.Fast.tw3946178802398189032 : Unit := ()
def PySem.W.Fast.tw14993007622935745928 : Unit := ()
def PySem.W.Fast.tw16256809578207066695 : Unit := ()
def PySem.W.Fast.tw1172133310850390282 : Unit := ()
def PySem.W.Fast.tw6666000590425278057 : Unit := ()
def PySem.W.Fast.tw6168774344188349942 : Unit := ()
open PySem PySem.W PyProof.Rows
set_option maxRecDepth 100000 in
set_option maxHeartbeats 0 in
theorem PySem.Challenge.cw_signsonly_s01_answers_holds : PySem.Challenge.rw_signsonly_s01_answers.Holds := by
  w_on; k_headS; (case hw => exact ⟨[.list [.int 3]], by decide +kernel, by decide +kernel⟩)
  k_fillS
  refine L2.walk_specK (r := PySem.Challenge.rw_signsonly_s01_answers) (k := 12) (CX := L2.CX0) (ps := ["calls"]) (sp := fun K => My.spAnswers K My.infos) (by decide +kernel) rfl rfl ⟨rfl, by decide, by decide⟩ (fun w h Y => PySem.W.kIn_of Y) ?F ?S (fun _ _ _ _ z => z)
  case F =>
    intro w mg fa h Y KX G hmg
    have Cs : My.Cst mg := by
      refine' My.mkCst KX G ?ya0 ?ya1 ?ya2 ?ya3 ?ya4 ?ya5 ?ya6
      (case ya0 => k_is); (case ya1 => k_is); (case ya2 => k_is); (case ya3 => k_is); (case ya4 => k_is); (case ya5 => k_is); (case ya6 => k_is);
    have C2 : My.Cst2 mg := by
      refine' My.mkCst2 KX G ?yb0 ?yb1 ?yb2 ?yb3 ?yb4 ?yb5
      (case yb0 => k_is); (case yb1 => k_is); (case yb2 => k_is); (case yb3 => k_is); (case yb4 => k_is); (case yb5 => k_is);
    have B : My.Blt mg := by
      refine' My.mkBlt KX G ?yc0 ?yc1 ?yc2 ?yc3 ?yc4 ?yc5 ?yc6 ?yc7
      (case yc0 => k_is); (case yc1 => k_is); (case yc2 => k_is); (case yc3 => k_is); (case yc4 => k_is); (case yc5 => k_is); (case yc6 => k_is); (case yc7 => k_is);
    have F0 : ∃ f fd, L2.Fun (L2.KOf KX) "turned" "turned" My.sTurned f fd ∧ mg "turned" = some (.ref f) := by
      dsimp only [L2.KOf]
      refine' My.mkFun KX G ?a ?l ?c ?k
      (case a => k_is); (case l => k_is); (case c => k_is); (case k => k_is)
    have F1 : ∃ f fd, L2.Fun (L2.KOf KX) "turned_set" "turned_set" My.sTset f fd ∧ mg "turned_set" = some (.ref f) := by
      dsimp only [L2.KOf]
      refine' My.mkFun KX G ?a ?l ?c ?k
      (case a => k_is); (case l => k_is); (case c => k_is); (case k => k_is)
    have F2 : ∃ f fd, L2.Fun (L2.KOf KX) "times" "times" My.sTimes f fd ∧ mg "times" = some (.ref f) := by
      dsimp only [L2.KOf]
      refine' My.mkFun KX G ?a ?l ?c ?k
      (case a => k_is); (case l => k_is); (case c => k_is); (case k => k_is)
    have F3 : ∃ f fd, L2.Fun (L2.KOf KX) "with_place" "with_place" My.sWith f fd ∧ mg "with_place" = some (.ref f) := by
      dsimp only [L2.KOf]
      refine' My.mkFun KX G ?a ?l ?c ?k
      (case a => k_is); (case l => k_is); (case c => k_is); (case k => k_is)
    have F4 : ∃ f fd, L2.Fun (L2.KOf KX) "grown_sign" "grown_sign" My.sGrown f fd ∧ mg "grown_sign" = some (.ref f) := by
      dsimp only [L2.KOf]
      refine' My.mkFun KX G ?a ?l ?c ?k
      (case a => k_is); (case l => k_is); (case c => k_is); (case k => k_is)
    have F5 : ∃ f fd, L2.Fun (L2.KOf KX) "term_signs" "term_signs" My.sTerms f fd ∧ mg "term_signs" = some (.ref f) := by
      dsimp only [L2.KOf]
      refine' My.mkFun KX G ?a ?l ?c ?k
      (case a => k_is); (case l => k_is); (case c => k_is); (case k => k_is)
    have F6 : ∃ f fd, L2.Fun (L2.KOf KX) "determinant" "determinant" My.sDet f fd ∧ mg "determinant" = some (.ref f) := by
      dsimp only [L2.KOf]
      refine' My.mkFun KX G ?a ?l ?c ?k
      (case a => k_is); (case l => k_is); (case c => k_is); (case k => k_is)
    have F7 : ∃ f fd, L2.Fun (L2.KOf KX) "is_sure" "is_sure" My.sSure f fd ∧ mg "is_sure" = some (.ref f) := by
      dsimp only [L2.KOf]
      refine' My.mkFun KX G ?a ?l ?c ?k
      (case a => k_is); (case l => k_is); (case c => k_is); (case k => k_is)
    have F8 : ∃ f fd, L2.Fun (L2.KOf KX) "change" "change" My.sChange f fd ∧ mg "change" = some (.ref f) := by
      dsimp only [L2.KOf]
      refine' My.mkFun KX G ?a ?l ?c ?k
      (case a => k_is); (case l => k_is); (case c => k_is); (case k => k_is)
    have F9 : ∃ f fd, L2.Fun (L2.KOf KX) "changes" "changes" My.sChs f fd ∧ mg "changes" = some (.ref f) := by
      dsimp only [L2.KOf]
      refine' My.mkFun KX G ?a ?l ?c ?k
      (case a => k_is); (case l => k_is); (case c => k_is); (case k => k_is)
    have F10 : ∃ f fd, L2.Fun (L2.KOf KX) "one_push" "one_push" My.sOne f fd ∧ mg "one_push" = some (.ref f) := by
      dsimp only [L2.KOf]
      refine' My.mkFun KX G ?a ?l ?c ?k
      (case a => k_is); (case l => k_is); (case c => k_is); (case k => k_is)
    have F11 : ∃ f fd, L2.Fun (L2.KOf KX) "table_without" "table_without" My.sWo f fd ∧ mg "table_without" = some (.ref f) := by
      dsimp only [L2.KOf]
      refine' My.mkFun KX G ?a ?l ?c ?k
      (case a => k_is); (case l => k_is); (case c => k_is); (case k => k_is)
    have F12 : ∃ f fd, L2.Fun (L2.KOf KX) "outcome" "outcome" My.sOut f fd ∧ mg "outcome" = some (.ref f) := by
      dsimp only [L2.KOf]
      refine' My.mkFun KX G ?a ?l ?c ?k
      (case a => k_is); (case l => k_is); (case c => k_is); (case k => k_is)
    have F13 : ∃ f fd, L2.Fun (L2.KOf KX) "is_idle" "is_idle" My.sIdle f fd ∧ mg "is_idle" = some (.ref f) := by
      dsimp only [L2.KOf]
      refine' My.mkFun KX G ?a ?l ?c ?k
      (case a => k_is); (case l => k_is); (case c => k_is); (case k => k_is)
    have F14 : ∃ f fd, L2.Fun (L2.KOf KX) "idle_pairs" "idle_pairs" My.sPairs f fd ∧ mg "idle_pairs" = some (.ref f) := by
      dsimp only [L2.KOf]
      refine' My.mkFun KX G ?a ?l ?c ?k
      (case a => k_is); (case l => k_is); (case c => k_is); (case k => k_is)
    have F15 : ∃ f fd, L2.Fun (L2.KOf KX) "paths_from" "paths_from" My.sFrom f fd ∧ mg "paths_from" = some (.ref f) := by
      dsimp only [L2.KOf]
      refine' My.mkFun KX G ?a ?l ?c ?k
      (case a => k_is); (case l => k_is); (case c => k_is); (case k => k_is)
    have F16 : ∃ f fd, L2.Fun (L2.KOf KX) "walk_sign" "walk_sign" My.sWalk f fd ∧ mg "walk_sign" = some (.ref f) := by
      dsimp only [L2.KOf]
      refine' My.mkFun KX G ?a ?l ?c ?k
      (case a => k_is); (case l => k_is); (case c => k_is); (case k => k_is)
    have F17 : ∃ f fd, L2.Fun (L2.KOf KX) "signed_paths" "signed_paths" My.sSP f fd ∧ mg "signed_paths" = some (.ref f) := by
      dsimp only [L2.KOf]
      refine' My.mkFun KX G ?a ?l ?c ?k
      (case a => k_is); (case l => k_is); (case c => k_is); (case k => k_is)
    have F18 : ∃ f fd, L2.Fun (L2.KOf KX) "signed_loops" "signed_loops" My.sSL f fd ∧ mg "signed_loops" = some (.ref f) := by
      dsimp only [L2.KOf]
      refine' My.mkFun KX G ?a ?l ?c ?k
      (case a => k_is); (case l => k_is); (case c => k_is); (case k => k_is)
    have F19 : ∃ f fd, L2.Fun (L2.KOf KX) "settling" "settling" My.sSet f fd ∧ mg "settling" = some (.ref f) := by
      dsimp only [L2.KOf]
      refine' My.mkFun KX G ?a ?l ?c ?k
      (case a => k_is); (case l => k_is); (case c => k_is); (case k => k_is)
    have F20 : ∃ f fd, L2.Fun (L2.KOf KX) "counted" "counted" My.dCounted f fd ∧ mg "counted" = some (.ref f) := by
      dsimp only [L2.KOf]
      refine' My.mkFun KX G ?a ?l ?c ?k
      (case a => k_is); (case l => k_is); (case c => k_is); (case k => k_is)
    have F21 : ∃ f fd, L2.Fun (L2.KOf KX) "chosen" "chosen" My.dChosen f fd ∧ mg "chosen" = some (.ref f) := by
      dsimp only [L2.KOf]
      refine' My.mkFun KX G ?a ?l ?c ?k
      (case a => k_is); (case l => k_is); (case c => k_is); (case k => k_is)
    have F22 : ∃ f fd, L2.Fun (L2.KOf KX) "is_above" "is_above" My.dAbove f fd ∧ mg "is_above" = some (.ref f) := by
      dsimp only [L2.KOf]
      refine' My.mkFun KX G ?a ?l ?c ?k
      (case a => k_is); (case l => k_is); (case c => k_is); (case k => k_is)
    have F23 : ∃ f fd, L2.Fun (L2.KOf KX) "refusal" "refusal" My.dRefusal f fd ∧ mg "refusal" = some (.ref f) := by
      dsimp only [L2.KOf]
      refine' My.mkFun KX G ?a ?l ?c ?k
      (case a => k_is); (case l => k_is); (case c => k_is); (case k => k_is)
    have F24 : ∃ f fd, L2.Fun (L2.KOf KX) "answer" "answer" My.dAnswer f fd ∧ mg "answer" = some (.ref f) := by
      dsimp only [L2.KOf]
      refine' My.mkFun KX G ?a ?l ?c ?k
      (case a => k_is); (case l => k_is); (case c => k_is); (case k => k_is)
    have F25 : ∃ f fd, L2.Fun (L2.KOf KX) "answers" "answers" My.dAnswers f fd ∧ mg "answers" = some (.ref f) := by
      dsimp only [L2.KOf]
      refine' My.mkFun KX G ?a ?l ?c ?k
      (case a => k_is); (case l => k_is); (case c => k_is); (case k => k_is)
    have PT : ∃ C, My.PlantTxt (L2.KOf KX) mg C := by
      dsimp only [L2.KOf]
      refine' My.mkPlant KX G ?aC ?pg ?hd ?po ?sa ?mk ?kc ?n0 ?n1 ?a0 ?i0 ?l0 ?c0 ?k0 ?a1 ?i1 ?l1 ?c1 ?k1 ?a2 ?i2 ?l2 ?c2 ?k2 ?a3 ?i3 ?l3 ?c3 ?k3 ?a4 ?i4 ?l4 ?c4 ?k4 ?a5 ?i5 ?l5 ?c5 ?k5 ?a6 ?i6 ?l6 ?c6 ?k6 ?a7 ?i7 ?l7 ?c7 ?k7
      (case aC => k_is); (case pg => k_is); (case hd => k_is); (case po => k_is); (case sa => k_is); (case mk => k_is); (case kc => k_is); (case n0 => k_is); (case n1 => k_is);
      (case a0 => k_is); (case i0 => k_is); (case l0 => k_is); (case c0 => k_is); (case k0 => k_is);
      (case a1 => k_is); (case i1 => k_is); (case l1 => k_is); (case c1 => k_is); (case k1 => k_is);
      (case a2 => k_is); (case i2 => k_is); (case l2 => k_is); (case c2 => k_is); (case k2 => k_is);
      (case a3 => k_is); (case i3 => k_is); (case l3 => k_is); (case c3 => k_is); (case k3 => k_is);
      (case a4 => k_is); (case i4 => k_is); (case l4 => k_is); (case c4 => k_is); (case k4 => k_is);
      (case a5 => k_is); (case i5 => k_is); (case l5 => k_is); (case c5 => k_is); (case k5 => k_is);
      (case a6 => k_is); (case i6 => k_is); (case l6 => k_is); (case c6 => k_is); (case k6 => k_is);
      (case a7 => k_is); (case i7 => k_is); (case l7 => k_is); (case c7 => k_is); (case k7 => k_is);
    have TT : ∃ d b0 b1 b2 b3 b4 b5 b6 b7 b8 b9 b10 b11 b12 b13 b14 b15 b16 b17 b18 b19 b20 b21, My.TabTxt (L2.KOf KX) mg d b0 b1 b2 b3 b4 b5 b6 b7 b8 b9 b10 b11 b12 b13 b14 b15 b16 b17 b18 b19 b20 b21 := by
      dsimp only [L2.KOf]
      refine' My.mkTab KX G ?aD ?lD ?e0 ?e1 ?e2 ?e3 ?e4 ?e5 ?e6 ?e7 ?e8 ?e9 ?e10 ?e11 ?e12 ?e13 ?e14 ?e15 ?e16 ?e17 ?e18 ?e19 ?e20 ?e21 ?r0 ?l0 ?c0 ?k0 ?r1 ?l1 ?c1 ?k1 ?r2 ?l2 ?c2 ?k2 ?r3 ?l3 ?c3 ?k3 ?r4 ?l4 ?c4 ?k4 ?r5 ?l5 ?c5 ?k5 ?r6 ?l6 ?c6 ?k6 ?r7 ?l7 ?c7 ?k7 ?r8 ?l8 ?c8 ?k8 ?r9 ?l9 ?c9 ?k9 ?r10 ?l10 ?c10 ?k10 ?r11 ?l11 ?c11 ?k11 ?r12 ?l12 ?c12 ?k12 ?r13 ?l13 ?c13 ?k13 ?r14 ?l14 ?c14 ?k14 ?r15 ?l15 ?c15 ?k15 ?r16 ?l16 ?c16 ?k16 ?r17 ?l17 ?c17 ?k17 ?r18 ?l18 ?c18 ?k18 ?r19 ?l19 ?c19 ?k19 ?r20 ?l20 ?c20 ?k20 ?r21 ?l21 ?c21 ?k21
      (case aD => k_is); (case lD => k_is); (case e0 => decide +kernel); (case e1 => decide +kernel); (case e2 => decide +kernel); (case e3 => decide +kernel); (case e4 => decide +kernel); (case e5 => decide +kernel); (case e6 => decide +kernel); (case e7 => decide +kernel); (case e8 => decide +kernel); (case e9 => decide +kernel); (case e10 => decide +kernel); (case e11 => decide +kernel); (case e12 => decide +kernel); (case e13 => decide +kernel); (case e14 => decide +kernel); (case e15 => decide +kernel); (case e16 => decide +kernel); (case e17 => decide +kernel); (case e18 => decide +kernel); (case e19 => decide +kernel); (case e20 => decide +kernel); (case e21 => decide +kernel);
      (case r0 => k_is); (case l0 => k_is); (case c0 => k_is); (case k0 => k_is);
      (case r1 => k_is); (case l1 => k_is); (case c1 => k_is); (case k1 => k_is);
      (case r2 => k_is); (case l2 => k_is); (case c2 => k_is); (case k2 => k_is);
      (case r3 => k_is); (case l3 => k_is); (case c3 => k_is); (case k3 => k_is);
      (case r4 => k_is); (case l4 => k_is); (case c4 => k_is); (case k4 => k_is);
      (case r5 => k_is); (case l5 => k_is); (case c5 => k_is); (case k5 => k_is);
      (case r6 => k_is); (case l6 => k_is); (case c6 => k_is); (case k6 => k_is);
      (case r7 => k_is); (case l7 => k_is); (case c7 => k_is); (case k7 => k_is);
      (case r8 => k_is); (case l8 => k_is); (case c8 => k_is); (case k8 => k_is);
      (case r9 => k_is); (case l9 => k_is); (case c9 => k_is); (case k9 => k_is);
      (case r10 => k_is); (case l10 => k_is); (case c10 => k_is); (case k10 => k_is);
      (case r11 => k_is); (case l11 => k_is); (case c11 => k_is); (case k11 => k_is);
      (case r12 => k_is); (case l12 => k_is); (case c12 => k_is); (case k12 => k_is);
      (case r13 => k_is); (case l13 => k_is); (case c13 => k_is); (case k13 => k_is);
      (case r14 => k_is); (case l14 => k_is); (case c14 => k_is); (case k14 => k_is);
      (case r15 => k_is); (case l15 => k_is); (case c15 => k_is); (case k15 => k_is);
      (case r16 => k_is); (case l16 => k_is); (case c16 => k_is); (case k16 => k_is);
      (case r17 => k_is); (case l17 => k_is); (case c17 => k_is); (case k17 => k_is);
      (case r18 => k_is); (case l18 => k_is); (case c18 => k_is); (case k18 => k_is);
      (case r19 => k_is); (case l19 => k_is); (case c19 => k_is); (case k19 => k_is);
      (case r20 => k_is); (case l20 => k_is); (case c20 => k_is); (case k20 => k_is);
      (case r21 => k_is); (case l21 => k_is); (case c21 => k_is); (case k21 => k_is);
    obtain ⟨C, PT⟩ := PT
    obtain ⟨d, b0, b1, b2, b3, b4, b5, b6, b7, b8, b9, b10, b11, b12, b13, b14, b15, b16, b17, b18, b19, b20, b21, TT⟩ := TT
    obtain ⟨f0, fd0, F0, g0⟩ := F0
    obtain ⟨f1, fd1, F1, g1⟩ := F1
    obtain ⟨f2, fd2, F2, g2⟩ := F2
    obtain ⟨f3, fd3, F3, g3⟩ := F3
    obtain ⟨f4, fd4, F4, g4⟩ := F4
    obtain ⟨f5, fd5, F5, g5⟩ := F5
    obtain ⟨f6, fd6, F6, g6⟩ := F6
    obtain ⟨f7, fd7, F7, g7⟩ := F7
    obtain ⟨f8, fd8, F8, g8⟩ := F8
    obtain ⟨f9, fd9, F9, g9⟩ := F9
    obtain ⟨f10, fd10, F10, g10⟩ := F10
    obtain ⟨f11, fd11, F11, g11⟩ := F11
    obtain ⟨f12, fd12, F12, g12⟩ := F12
    obtain ⟨f13, fd13, F13, g13⟩ := F13
    obtain ⟨f14, fd14, F14, g14⟩ := F14
    obtain ⟨f15, fd15, F15, g15⟩ := F15
    obtain ⟨f16, fd16, F16, g16⟩ := F16
    obtain ⟨f17, fd17, F17, g17⟩ := F17
    obtain ⟨f18, fd18, F18, g18⟩ := F18
    obtain ⟨f19, fd19, F19, g19⟩ := F19
    obtain ⟨f20, fd20, F20, g20⟩ := F20
    obtain ⟨f21, fd21, F21, g21⟩ := F21
    obtain ⟨f22, fd22, F22, g22⟩ := F22
    obtain ⟨f23, fd23, F23, g23⟩ := F23
    obtain ⟨f24, fd24, F24, g24⟩ := F24
    obtain ⟨f25, fd25, F25, g25⟩ := F25
    have e := hmg.symm.trans g25
    cases e
    refine ⟨fd25, ?_, fun base _ _ => My.ok_all Cs C2 B PT TT F0 g0 F1 g1 F2 g2 F3 g3 F4 g4 F5 g5 F6 g6 F7 g7 F8 g8 F9 g9 F10 g10 F11 g11 F12 g12 F13 g13 F14 g14 F15 g15 F16 g16 F17 g17 F18 g18 F19 g19 F20 g20 F21 g21 F22 g22 F23 g23 F24 g24 F25⟩
    obtain ⟨oc, od, kV, doc, pm, an, cdv, ct, osl, rfl, lk, hcd⟩ := F25.ex
    exact fun s us hu => match us, hu with | [_], _ => .of_eq rfl
  case S =>
    intro K H xs a hO hwi hask hx
    cases hx with
    | cons h1 h2 =>
      cases h2
      cases h1 with
      | lst hs ha =>
        have e := L2.ints_dw a.1 _ ha
        subst e
        have q : ((Codec.inLen 0 240 a.1 && a.1.all (Codec.inInt 0 4294967295)) && true) = true := hwi
        rw [Bool.and_eq_true, Bool.and_eq_true] at q
        obtain ⟨ns, hns, fu, hV, hrun⟩ := My.asked_ok a.1 (fun x hx => (Codec.inInt_iff.mp (List.all_eq_true.mp q.1.2 x hx)).1) hask
        refine ⟨_, ns, fu, rfl, ?_, ?_, hV, fun H' p hp => .lst (L2.SqL.of hp) ?_⟩
        · rw [show ns.map My.nV = a.1.map L2.V.int by rw [hns, List.map_map]; rfl]
          exact hs
        · have := (Codec.inNat_iff.mp q.1.1).2
          rw [hns, List.length_map] at this; exact this
        · rw [hrun]; exact L2.dw_ints _
#print axioms PySem.Challenge.cw_signsonly_s01_answers_holds


end
