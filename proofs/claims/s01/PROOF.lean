import PyProof.Rows.All
import Wide.All
import OpenK.AllK
import Wide.FinOn
import PyProof.EqAt
import PyProof.EqKinds
import PyProof.TupleCall
import KE.BitLaws
import Open.SpecLaws
import KE.OsHead
import KE.OsGo
import PyFlatLaws
import PySem.Challenge.RW_stateheirs_s01_answers
set_option Elab.async false
set_option linter.all false
set_option maxRecDepth 100000
namespace L2
open PySem PySem.Spec PyProof.Rows
abbrev Key := Sum Int Str
def keyIs : Key → Value → Bool
  | .inl k, v => Value.isInt k v
  | .inr x, v => Value.isStrOf x v
def keyH (w : World) : Key → Int
  | .inl k => hashInt k
  | .inr x => hashStr w x
theorem keyIs_shape : ∀ {k : Key} {v : Value}, keyIs k v = true → (∃ i t, k = Sum.inl i ∧ v = Value.int i t) ∨ (∃ x t, k = Sum.inr x ∧ v = Value.str x t)
  | .inl i, v, h => by
    obtain ⟨t, e⟩ := Value.isInt_shape (k := i) (v := v) h
    exact .inl ⟨i, t, rfl, e⟩
  | .inr x, v, h => by
    obtain ⟨t, e⟩ := Value.isStrOf_shape (x := x) (v := v) h
    exact .inr ⟨x, t, rfl, e⟩
theorem key_ll (a b : Int) : decide ((Sum.inl a : Key) = Sum.inl b) = (a == b) := by
  by_cases e : a = b
  · subst e; simp
  · have h : ¬ (Sum.inl a : Key) = Sum.inl b := fun q => e (Sum.inl.inj q)
    rw [decide_eq_false h]
    exact (beq_eq_false_iff_ne.mpr e).symm
theorem key_rr (a b : Str) : decide ((Sum.inr a : Key) = Sum.inr b) = decide (a = b) := by
  by_cases e : a = b
  · subst e; simp
  · have h : ¬ (Sum.inr a : Key) = Sum.inr b := fun q => e (Sum.inr.inj q)
    rw [decide_eq_false h, decide_eq_false e]
theorem key_lr (a : Int) (b : Str) : decide ((Sum.inl a : Key) = Sum.inr b) = false := decide_eq_false (fun q => nomatch q)
theorem key_rl (a : Str) (b : Int) : decide ((Sum.inr a : Key) = Sum.inl b) = false := decide_eq_false (fun q => nomatch q)
def mixKind (prog : Program) (w : World) : PySem.KeyKind prog w Key where
  is := keyIs
  hash := keyH w
  inj := fun v a b ha hb => by
    rcases keyIs_shape ha with ⟨i, t, rfl, rfl⟩ | ⟨x, t, rfl, rfl⟩
    · rcases keyIs_shape hb with ⟨j, u, rfl, e⟩ | ⟨y, u, rfl, e⟩
      · injection e with e1 _; rw [e1]
      · exact nomatch e
    · rcases keyIs_shape hb with ⟨j, u, rfl, e⟩ | ⟨y, u, rfl, e⟩
      · exact nomatch e
      · injection e with e1 _; rw [e1]
  byValue := fun k v h => by
    rcases keyIs_shape h with ⟨i, t, rfl, rfl⟩ | ⟨x, t, rfl, rfl⟩ <;> rfl
  pyHash := fun hv h => by
    rcases keyIs_shape hv with ⟨i, t, rfl, rfl⟩ | ⟨x, t, rfl, rfl⟩
    · exact wpAny_pyHash_int h
    · exact wpAny_pyHash_str h
  eqBool := fun hu hv h => by
    rcases keyIs_shape hu with ⟨i, t, rfl, rfl⟩ | ⟨x, t, rfl, rfl⟩
    · rcases keyIs_shape hv with ⟨j, u, rfl, rfl⟩ | ⟨y, u, rfl, rfl⟩
      · rw [key_ll] at h; exact wpAny_eqBool_int h
      · rw [key_lr] at h; exact SeqAt.EqAt.int_str i t y u _ _ _ _ h
    · rcases keyIs_shape hv with ⟨j, u, rfl, rfl⟩ | ⟨y, u, rfl, rfl⟩
      · rw [key_rl] at h; exact SeqAt.EqAt.str_int x t j u _ _ _ _ h
      · rw [key_rr] at h; exact wpAny_eqBool_str h
  «strs» := fun k x t v h => by
    rcases keyIs_shape h with ⟨i, u, rfl, e⟩ | ⟨y, u, rfl, e⟩
    · exact nomatch e
    · injection e with e1 _
      subst e1
      cases v <;> rfl
end L2
namespace L2
open PySem PySem.Spec PyProof.Rows
inductive V where
  | non | bl (b : Bool) | int (i : Int) | str (x : Str) | byt (b : Array UInt8) | flt (b : UInt64) | ref (a : Addr) | ty (n : String)
  deriving DecidableEq
def RelV : V → Value → Prop
  | .non, u => u = Value.none
  | .bl b, u => u = Value.bool b
  | .int i, u => ∃ t, u = Value.int i t
  | .str x, u => ∃ t, u = Value.str x t
  | .byt b, u => ∃ t, u = Value.bytes b t
  | .flt b, u => ∃ t, u = Value.float b t
  | .ref a, u => u = Value.ref a
  | .ty n, u => u = Value.type n
abbrev Vals : List V → List Value → Prop := Paired RelV
theorem Vals.length {xs : List V} {us : List Value} (r : Vals xs us) : xs.length = us.length := Paired.length r
theorem Vals.get : ∀ {xs : List V} {us : List Value} {i : Nat} {x : V}, Vals xs us → xs[i]? = some x → ∃ u, us[i]? = some u ∧ RelV x u
  | _, _, _, _, .nil, e => by simp at e
  | _, _, 0, _, .cons r _, e => by simp at e; subst e; exact ⟨_, rfl, r⟩
  | _, _, i + 1, x, .cons _ t, e => by
    obtain ⟨u, h1, h2⟩ := Vals.get (i := i) (x := x) t (by simpa using e)
    exact ⟨u, by simpa using h1, h2⟩
theorem Vals.append : ∀ {xs ys : List V} {us ws : List Value}, Vals xs us → Vals ys ws → Vals (xs ++ ys) (us ++ ws)
  | _, _, _, _, .nil, s => s
  | _, _, _, _, .cons r t, s => .cons r (Vals.append t s)
theorem Vals.take : ∀ {xs : List V} {us : List Value} (n : Nat), Vals xs us → Vals (xs.take n) (us.take n)
  | _, _, 0, _ => .nil
  | _, _, _ + 1, .nil => .nil
  | _, _, n + 1, .cons r t => .cons r (Vals.take n t)
theorem Vals.drop : ∀ {xs : List V} {us : List Value} (n : Nat), Vals xs us → Vals (xs.drop n) (us.drop n)
  | _, _, 0, r => r
  | _, _, _ + 1, .nil => .nil
  | _, _, n + 1, .cons _ t => Vals.drop n t
def RelO : Option V → Option Value → Prop
  | some v, some u => RelV v u
  | none, none => True
  | _, _ => False
def KV {κ : Type} : List (κ × V) → List (κ × Value) → Prop := Paired fun (p : κ × V) (q : κ × Value) => p.1 = q.1 ∧ RelV p.2 q.2
def kV : Key → V
  | .inl i => .int i
  | .inr x => .str x
inductive HO where
  /-- a list -/
  | lst (xs : List V)
  /-- a tuple (never changes) -/
  | tup (xs : List V)
  /-- a dict whose keys are ints and texts; one whose keys are tuples of ints and texts (the empty one is both) -/
  | dK (kvs : List (Key × V)) | dT (kvs : List (List Key × V))
  /-- a set of ints: its members, its size -/
  | set (S : Int → Bool) (n : Nat)
  /-- an instance of the class at C, its dict at dx, its attributes -/
  | ins (C dx : Addr) (fs : List (Str × V))
  /-- the dict of the instance at x -/
  | own (x : Addr)
  /-- the dict of an exception -/
  | xd (fs : List (Str × V))
  /-- a bound method, f of x -/
  | met (f x : Addr)
  /-- a range object lo, lo + 1, .. below hi -/
  | rng (lo hi : Int)
  /-- a thing that is known to the object (the script; a dict while a loop walks it): read, never written while it is so -/
  | frz (o : Obj) (u : HO)
  /-- a code object's table -/
  | tbl (ps : Array Value)
  /-- any other thing, by what is true of its one object (a def of one's own: SetO a S n := HO.ext fun h => ..) -/
  | ext (φ : Heap → Prop)
abbrev Hp := Addr → Option HO
def upd (H : Hp) (a : Addr) (o : HO) : Hp := fun b => if b = a then some o else H b
theorem upd_same {H : Hp} {a : Addr} {o : HO} : upd H a o a = some o := by unfold upd; rw [if_pos rfl]
theorem upd_ne {H : Hp} {a b : Addr} {o : HO} (h : b ≠ a) : upd H a o b = H b := by unfold upd; rw [if_neg h]
theorem ne_of_none {H : Hp} {a b : Addr} {o : HO} (h : H a = some o) (h' : H b = none) : a ≠ b := by
  intro e; subst e; rw [h] at h'; cases h'
section
variable (P : Program) (w : World)
def ObjOk (H : Hp) (h : Heap) (a : Addr) : HO → Prop
  | .lst xs => xs.length ≤ sizeLine ∧ ∃ (its : List Value) (n : Nat), Vals xs its ∧ h.get? a = some { cls := .type "list", data := .seq its.toArray n }
  | .tup xs => xs.length ≤ sizeLine ∧ ∃ its : List Value, Vals xs its ∧ IsTup h a its.toArray
  | .dK kvs => kvs.length ≤ sizeLine ∧ (a == sysModules) = false ∧ ∃ vs, KV kvs vs ∧ h.DictOf (mixKind P w) a vs
  | .dT kvs => kvs.length ≤ sizeLine ∧ (a == sysModules) = false ∧ ∃ xs : List (List Key × Addr × Value),
      Paired (fun (p : List Key × V) (q : List Key × Addr × Value) => p.1 = q.1 ∧ H q.2.1 = some (.tup (p.1.map kV)) ∧ RelV p.2 q.2.2) kvs xs ∧
      ∃ o es ep, h.get? a = some o ∧ o.ExactDict ∧ o.data = .dict es ep ∧ es.toList = xs.map (entryOfKey (tupleKind (mixKind P w))) ∧ (xs.map (·.1)).Nodup
  | .set S n => h.SetOf (intKind P w) a S n
  | .ins C dx fs => H dx = some (.own a) ∧ fs.length ≤ 1000 ∧ dx ≠ a ∧ h.get? a = some (PySem.W.instObj C dx) ∧
      ∃ mA, h.Ns1 dx mA ∧ (∀ f, RelO (fs.lookup f) (mA f)) ∧ PySem.Within mA (fs.map (·.1))
  | .own _ => ∃ o, h.get? a = some o
  | .xd fs => ∃ mA, h.Ns1 a mA ∧ ∀ f, RelO (fs.lookup f) (mA f)
  | .rng lo hi => ∃ t u v, h.get? a = some { cls := .type "range", data := .fields #[.int lo t, .int hi u, .int 1 v] }
  | .frz o u => h.get? a = some o ∧ ObjOk H h a u
  | .tbl ps => h.get? a = some { cls := .none, data := .fields ps }
  | .met f x => h.get? a = some (PySem.W.methodObj (.ref f) (.ref x))
  | .ext φ => φ h ∧ (∃ o, h.get? a = some o) ∧ ∀ h1 h2 : Heap, φ h1 → (∀ o, h1.get? a = some o → h2.get? a = some o) → φ h2
def HOk (H : Hp) (h : Heap) : Prop := ∀ a o, H a = some o → ObjOk P w H h a o
end
section
variable {P : Program} {w : World} {H H' : Hp} {h h' : Heap} {a : Addr} {o : HO}
theorem ObjOk.lt (x : ObjOk P w H h a o) : a < h.objs.size := by
  cases o with
  | lst xs => obtain ⟨_, _, _, _, e⟩ := x; exact Heap.lt_size e
  | tup xs => obtain ⟨_, _, _, p⟩ := x; exact p.lt
  | dK kvs => obtain ⟨_, _, _, _, o, _, _, e, _⟩ := x; exact Heap.lt_size e
  | dT kvs => obtain ⟨_, _, _, _, o, _, _, e, _⟩ := x; exact Heap.lt_size e
  | set S n => obtain ⟨o, _, _, _, e, _⟩ := x; exact Heap.lt_size e
  | ins C dx fs => obtain ⟨_, _, _, e, _⟩ := x; exact Heap.lt_size e
  | own y => obtain ⟨_, e⟩ := x; exact Heap.lt_size e
  | xd fs => obtain ⟨_, ⟨_, _, _, e, _⟩, _⟩ := x; exact Heap.lt_size e
  | rng lo hi => obtain ⟨_, _, _, e⟩ := x; exact Heap.lt_size e
  | frz ob u => obtain ⟨e, _⟩ := x; exact Heap.lt_size e
  | tbl ps => exact Heap.lt_size (show h.get? a = some _ from x)
  | met f y => exact Heap.lt_size (show h.get? a = some _ from x)
  | ext φ => obtain ⟨_, ⟨_, e⟩, _⟩ := x; exact Heap.lt_size e
theorem Paired.mapP {α β : Type} {F G : α → β → Prop} : ∀ {l₁ : List α} {l₂ : List β}, Paired F l₁ l₂ → (∀ a b, F a b → G a b) → Paired G l₁ l₂
  | _, _, .nil, _ => .nil
  | _, _, .cons r t, f => .cons (f _ _ r) (Paired.mapP t f)
theorem ObjOk.stay (x : ObjOk P w H h a o) (k : ∀ b u, (b = a ∨ H b = some (.own a)) → h.get? b = some u → h'.get? b = some u)
    (ho : ∀ b, H b = some (.own a) → H' b = some (.own a)) (ht : ∀ b xs, H b = some (.tup xs) → H' b = some (.tup xs)) : ObjOk P w H' h' a o := by
  induction o with
  | lst xs => obtain ⟨z, its, n, r, e⟩ := x; exact ⟨z, its, n, r, k _ _ (.inl rfl) e⟩
  | tup xs => obtain ⟨z, its, r, ob, e, c⟩ := x; exact ⟨z, its, r, ob, k _ _ (.inl rfl) e, c⟩
  | dK kvs => obtain ⟨z, y, vs, r, ob, es, ep, e, c⟩ := x; exact ⟨z, y, vs, r, ob, es, ep, k _ _ (.inl rfl) e, c⟩
  | dT kvs =>
    obtain ⟨z, y, xs, r, ob, es, ep, e, c⟩ := x
    exact ⟨z, y, xs, Paired.mapP r fun p q z => ⟨z.1, ht _ _ z.2.1, z.2.2⟩, ob, es, ep, k _ _ (.inl rfl) e, c⟩
  | set S n => obtain ⟨ob, es, ep, t, e, c⟩ := x; exact ⟨ob, es, ep, t, k _ _ (.inl rfl) e, c⟩
  | ins C dx fs =>
    obtain ⟨d, z, ne, e, mA, ⟨od, es, ep, e2, c⟩, r⟩ := x
    exact ⟨ho _ d, z, ne, k _ _ (.inl rfl) e, mA, ⟨od, es, ep, k _ _ (.inr d) e2, c⟩, r⟩
  | own y => obtain ⟨ob, e⟩ := x; exact ⟨ob, k _ _ (.inl rfl) e⟩
  | xd fs => obtain ⟨mA, ⟨od, es, ep, e, c⟩, r⟩ := x; exact ⟨mA, ⟨od, es, ep, k _ _ (.inl rfl) e, c⟩, r⟩
  | rng lo hi => obtain ⟨t, u, v, e⟩ := x; exact ⟨t, u, v, k _ _ (.inl rfl) e⟩
  | frz ob u ih => obtain ⟨e, q⟩ := x; exact ⟨k _ _ (.inl rfl) e, ih q⟩
  | tbl ps =>
    have e : h.get? a = some { cls := .none, data := .fields ps } := x
    show h'.get? a = some { cls := .none, data := .fields ps }
    exact k a _ (.inl rfl) e
  | met f y =>
    have e : h.get? a = some (PySem.W.methodObj (.ref f) (.ref y)) := x
    show h'.get? a = some (PySem.W.methodObj (.ref f) (.ref y))
    exact k a _ (.inl rfl) e
  | ext φ => obtain ⟨p, ⟨o, e⟩, st⟩ := x; exact ⟨st _ _ p fun o q => k _ _ (.inl rfl) q, ⟨o, k _ _ (.inl rfl) e⟩, st⟩
theorem HOk.lt (x : HOk P w H h) (e : H a = some o) : a < h.objs.size := (x a o e).lt
theorem HOk.fresh (x : HOk P w H h) (e : h.objs.size ≤ a) : H a = none := by
  cases q : H a with
  | none => rfl
  | some u => exact absurd (Nat.lt_of_lt_of_le (x.lt q) e) (Nat.lt_irrefl _)
theorem HOk.kept (x : HOk P w H h) (k : ∀ b u, h.get? b = some u → h'.get? b = some u) : HOk P w H h' := fun a o e =>
  (x a o e).stay (fun b u _ q => k b u q) (fun _ q => q) fun _ _ q => q
theorem HOk.laid (x : HOk P w H h) (k : ∀ b u, h.get? b = some u → h'.get? b = some u) (hp : h.objs.size ≤ a) (new : ObjOk P w (upd H a o) h' a o) : HOk P w (upd H a o) h' := fun b u e => by
  have hn := x.fresh hp
  by_cases hb : b = a
  · subst hb; rw [upd_same] at e; cases e; exact new
  · rw [upd_ne hb] at e
    exact (x b u e).stay (fun c v _ q => k c v q) (fun c q => by rw [upd_ne (ne_of_none q hn)]; exact q) fun c xs q => by rw [upd_ne (ne_of_none q hn)]; exact q
end
def Rd (H : Hp) (a : Addr) (u : HO) : Prop := H a = some u ∨ ∃ o, H a = some (.frz o u)
theorem Rd.ok {P : Program} {w : World} {H : Hp} {h : Heap} {a : Addr} {u : HO} (r : Rd H a u) (x : HOk P w H h) : ObjOk P w H h a u := by
  rcases r with r | ⟨o, r⟩
  · exact x a u r
  · obtain ⟨_, q⟩ := x a _ r
    exact q
def Mut : Option HO → Prop
  | some (.lst _) => True
  | some (.dK _) => True
  | some (.dT _) => True
  | some (.set _ _) => True
  | some (.ins _ _ _) => True
  | some (.ext _) => True
  | _ => False
section
variable {P : Program} {w : World} {H : Hp} {h h' : Heap} {x e : Addr} {o' : HO}
theorem HOk.write (ok : HOk P w H h) (mu : Mut (H x)) (he : e = x ∨ H e = some (.own x)) (k : ∀ b u, b ≠ e → h.get? b = some u → h'.get? b = some u) (heo : ∃ u, h'.get? e = some u)
    (new : ObjOk P w (upd H x o') h' x o') : HOk P w (upd H x o') h' := fun b u q => by
  have nown : ∀ c y, H c = some (.own y) → c ≠ x := fun c y r z => by subst z; rw [r] at mu; exact mu
  have ntup : ∀ c xs, H c = some (.tup xs) → c ≠ x := fun c xs r z => by subst z; rw [r] at mu; exact mu
  by_cases hb : b = x
  · subst hb; rw [upd_same] at q; cases q; exact new
  · rw [upd_ne hb] at q
    by_cases hbe : b = e
    · have q' : H b = some (.own x) := by
        rcases he with z | z
        · exact absurd (hbe.trans z) hb
        · rw [hbe]; exact z
      rw [q] at q'; cases q'
      obtain ⟨v, hv⟩ := heo
      exact ⟨v, by rw [hbe]; exact hv⟩
    · refine (ok b u q).stay (fun c v hc r => k c v ?_ r) (fun c r => by rw [upd_ne (nown c b r)]; exact r) fun c xs r => by rw [upd_ne (ntup c xs r)]; exact r
      rcases hc with rfl | hc
      · exact hbe
      · rintro rfl
        rcases he with z | z
        · exact nown c b hc z
        · rw [hc] at z; cases z; exact hb rfl
end
structure Un (fs ex : List Addr) (H H' : Hp) (h h' : Heap) : Prop where
  keep : ∀ b o, h.get? b = some o → H b = none → b ∉ fs → b ∉ ex → h'.get? b = some o
  slot : ∀ b o, h.get? b = some o → H b = none → b ∈ fs → b ∉ ex → ∃ sl, h'.get? b = some { o with slots := sl }
  free : ∀ b o, h.get? b = some o → H b = none → b ∉ ex → H' b = none
  there : ∀ b o, h.get? b = some o → b ∉ ex → ∃ o', h'.get? b = some o'
  tups : ∀ b xs, H b = some (.tup xs) → H' b = some (.tup xs)
  frzs : ∀ b o u, H b = some (.frz o u) → H' b = some (.frz o u)
  tbls : ∀ b ps, H b = some (.tbl ps) → ∃ more, H' b = some (.tbl (ps ++ more))
section
variable {fs fs' ex ex' : List Addr} {H H1 H2 : Hp} {h h1 h2 h' : Heap} {a x e : Addr} {o : HO}
theorem Un.any (u : Un fs ex H H1 h h1) {b : Addr} {ob : Obj} (q : h.get? b = some ob) (n : H b = none) (hx : b ∉ ex) : ∃ sl, h1.get? b = some { ob with slots := sl } := by
  by_cases hb : b ∈ fs
  · exact u.slot b ob q n hb hx
  · exact ⟨ob.slots, u.keep b ob q n hb hx⟩
theorem Un.kept (k : ∀ b u, h.get? b = some u → h'.get? b = some u) : Un fs ex H H h h' :=
  ⟨fun b ob q _ _ _ => k b ob q, fun b ob q _ _ _ => ⟨ob.slots, k b ob q⟩, fun _ _ _ n _ => n, fun b ob q _ => ⟨ob, k b ob q⟩, fun _ _ q => q, fun _ _ _ q => q, fun _ ps q => ⟨#[], by rw [q]; simp⟩⟩
theorem Un.refl : Un fs ex H H h h := Un.kept fun _ _ q => q
theorem Un.laid (k : ∀ b u, h.get? b = some u → h'.get? b = some u) (hp : h.objs.size ≤ a) (hn : H a = none) : Un fs ex H (upd H a o) h h' where
  keep := fun b u q _ _ _ => k b u q
  slot := fun b u q _ _ _ => ⟨u.slots, k b u q⟩
  free := fun b u q n _ => by rw [upd_ne (Nat.ne_of_lt (Nat.lt_of_lt_of_le (Heap.lt_size q) hp))]; exact n
  there := fun b u q _ => ⟨u, k b u q⟩
  tups := fun b xs q => by rw [upd_ne (ne_of_none q hn)]; exact q
  frzs := fun b u xs q => by rw [upd_ne (ne_of_none q hn)]; exact q
  tbls := fun b ps q => ⟨#[], by rw [upd_ne (ne_of_none q hn), q]; simp⟩
theorem Un.write (mu : Mut (H x)) (he : e = x ∨ H e = some (.own x)) (k : ∀ b u, b ≠ e → h.get? b = some u → h'.get? b = some u) (heo : ∃ u, h'.get? e = some u) : Un fs ex H (upd H x o) h h' := by
  have hx : ∀ b, H b = none → b ≠ x := fun b n z => by subst z; rw [n] at mu; exact mu
  have hb : ∀ b, H b = none → b ≠ e := fun b n z => by
    subst z
    rcases he with r | r
    · exact hx b n r
    · rw [n] at r; cases r
  have hm : ∀ b u, H b = some u → ¬ Mut (some u) → b ≠ x := fun b u q nm z => by subst z; rw [q] at mu; exact nm mu
  refine ⟨fun b u q n _ _ => k b u (hb b n) q, fun b u q n _ _ => ⟨u.slots, k b u (hb b n) q⟩, fun b u q n _ => by rw [upd_ne (hx b n)]; exact n, fun b u q _ => ?_,
    fun b xs q => by rw [upd_ne (hm b _ q fun z => z)]; exact q, fun b u xs q => by rw [upd_ne (hm b _ q fun z => z)]; exact q, fun b ps q => ⟨#[], by rw [upd_ne (hm b _ q fun z => z), q]; simp⟩⟩
  by_cases hbe : b = e
  · subst hbe; exact heo
  · exact ⟨u, k b u hbe q⟩
end
def trk (h : Heap) (H : Hp) : List Addr := (List.range h.objs.size).filter fun a => (H a).isSome
def hidT (h : Heap) (H : Hp) : Heap := PySem.W.hideAll h (trk h H)
theorem hidT_size (h : Heap) (H : Hp) : (hidT h H).objs.size = h.objs.size := PySem.W.hideAll_size _ _
theorem hidT_get {h : Heap} {H : Hp} {b : Addr} {o : Obj} (e : h.get? b = some o) (n : H b = none) : (hidT h H).get? b = some o :=
  PySem.W.hideAll_get _ e fun hm => by
    have q : (H b).isSome = true := (List.mem_filter.mp hm).2
    rw [n] at q; simp at q
theorem of_hidT {h : Heap} {H : Hp} {b : Addr} {o : Obj} (e : (hidT h H).get? b = some o) : h.get? b = some o ∧ H b = none := by
  have e' : h.get? b = some o := PySem.W.of_hideAll (trk h H) e
  refine ⟨e', ?_⟩
  cases q : H b with
  | none => rfl
  | some x =>
    have hm : b ∈ trk h H := List.mem_filter.mpr ⟨List.mem_range.mpr (Heap.lt_size e'), by simp [q]⟩
    have z : (hidT h H).get? b = none := PySem.W.hideAll_none (trk h H) hm
    rw [z] at e; cases e
end L2
namespace L2
open PySem PySem.Spec PyProof.Rows
structure Mod (K : PySem.W.Frag) (mg : Str → Option Value) (base : Heap) : Prop where
  kin : K.In base
  glob : base.Ns mainGlobals mg
  blt : ∃ mb, base.Ns builtinsNs mb ∧ ∀ x : Str, x ≠ "__name__" → mb x = bootBuiltins x
  nolimit : base.NoLimit
structure Cx where
  prog : Program
  w : World
  K : PySem.W.Frag
  mg : Str → Option Value
  base : Heap
  A : Around
  N : List Str
  s_0 : Shared
  H_0 : Hp
  env : Env
  outer : List Env
  stack : List Env
  ex : List Addr
  fn : Str → Bool
  calm : Bool
  pn : List (Addr × Obj)
  xe : Value → Shared → Prop
def frs (l : List Env) : List Addr := l.filterMap (·.frame)
abbrev Cx.fs (X : Cx) : List Addr := frs X.outer
def Vis (sc : Scope) (x : Str) : Prop := sc.names.lookup x = some .local ∨ sc.names.lookup x = some .cell ∨ sc.names.lookup x = some .free
def Loc (sc : Scope) (x : Str) : Prop := sc.names.lookup x = some .local ∨ sc.names.lookup x = some .cell
def Look (env : Env) (h : Heap) (m : Str → Option Value) (x : Str) (u : Value) : Prop :=
  (env.kindOf x = some .local ∧ m x = some u) ∨ ((env.kindOf x = some .cell ∨ env.kindOf x = some .free) ∧ ∃ c, env.cells.lookup x = some c ∧ h.IsCell c (some u))
structure Cx.Ok (X : Cx) : Prop where
  mod : Mod X.K X.mg X.base
  kind : X.env.scope.kind = .function
  glob : X.env.globals = mainGlobals
  blt : X.env.builtins = builtinsNs
  above : X.s_0.heap.objs.size ≤ X.env.locals
  inj : ∀ x y c, X.env.cells.lookup x = some c → X.env.cells.lookup y = some c → x = y
  has : ∀ x, (X.env.kindOf x = some .cell ∨ X.env.kindOf x = some .free) → ∃ c, X.env.cells.lookup x = some c
  cab : ∀ x c, X.fn x = true → X.env.cells.lookup x = some c → X.s_0.heap.objs.size ≤ c
  hd : X.calm = true → X.A.handled = none
  frames : X.A.frames = some X.stack
  stk : X.stack = X.outer ∨ (X.stack = X.env :: X.outer ∧ X.env.frame = some X.env.locals)
  exf : ∀ b ∈ X.ex, b ≠ X.env.locals ∧ ∀ x c, X.env.cells.lookup x = some c → c ≠ b
  bs : ∀ b o, X.base.get? b = some o → X.s_0.heap.get? b = some o ∧ X.H_0 b = none
  bsz : X.base.objs.size ≤ X.s_0.heap.objs.size
  noex : ∀ b o, X.base.get? b = some o → b ∉ X.ex
  exfs : ∀ b ∈ X.ex, b ∉ X.fs
  funs : X.s_0.heap.FunFrames X.base X.outer
  frf : ∀ b ∈ X.fs, X.H_0 b = none
structure Inv (X : Cx) (pins : List (Addr × Obj)) (σ : List (Option V)) (H : Hp) (s : Shared) : Prop where
  ok : X.Ok
  os : s.os = X.s_0.os
  bare : AllBare s.gens
  base : Un X.fs X.ex X.H_0 H X.s_0.heap s.heap
  loc : ∃ m, s.heap.Ns X.env.locals m ∧ ∀ (i : Nat) (x : Str) (v : V), X.N[i]? = some x → σ[i]? = some (some v) → Vis X.env.scope x → ∃ u, RelV v u ∧ Look X.env s.heap m x u
  cell : ∀ x c, X.env.cells.lookup x = some c → ∃ v, s.heap.IsCell c v
  free : H X.env.locals = none
  freeC : ∀ x c, X.env.cells.lookup x = some c → H c = none
  pin : ∀ p ∈ X.pn ++ pins, s.heap.get? p.1 = some p.2 ∧ H p.1 = none ∧ p.1 ≠ X.env.locals ∧ p.1 ∉ X.fs ∧ ∀ v, p.2.data ≠ .cell v
  hok : HOk X.prog X.w H s.heap
  len : σ.length = X.N.length
section
variable {X : Cx} {pins : List (Addr × Obj)} {σ : List (Option V)} {H H' : Hp} {s : Shared} {h' : Heap}
theorem Cx.Ok.nofr (ok : X.Ok) {b : Addr} {o : Obj} (e : X.base.get? b = some o) : b ∉ X.fs := fun hb => by
  have := (ok.funs.mem hb).1
  rw [e] at this; cases this
theorem Inv.bs (I : Inv X pins σ H s) : ∀ b o, X.base.get? b = some o → s.heap.get? b = some o ∧ H b = none := fun b o e =>
  ⟨I.base.keep b o (I.ok.bs b o e).1 (I.ok.bs b o e).2 (I.ok.nofr e) (I.ok.noex b o e), I.base.free b o (I.ok.bs b o e).1 (I.ok.bs b o e).2 (I.ok.noex b o e)⟩
theorem Inv.bk (I : Inv X pins σ H s) : ∀ b o, X.base.get? b = some o → s.heap.get? b = some o := fun b o e => (I.bs b o e).1
theorem Inv.mod (I : Inv X pins σ H s) : Mod X.K X.mg X.base := I.ok.mod
theorem Inv.kIn (I : Inv X pins σ H s) : X.K.In s.heap := I.ok.mod.kin.keeps I.bk
theorem Inv.lt (I : Inv X pins σ H s) : X.env.locals < s.heap.objs.size := let ⟨_, hn, _⟩ := I.loc; hn.lt
theorem Inv.sz (I : Inv X pins σ H s) : X.s_0.heap.objs.size ≤ s.heap.objs.size := Nat.le_trans I.ok.above (Nat.le_of_lt I.lt)
theorem Inv.nofs (I : Inv X pins σ H s) {a : Addr} (h : s.heap.objs.size ≤ a) : a ∉ X.fs := fun hb => by
  obtain ⟨_, o, ho, _⟩ := I.ok.funs.mem hb
  exact absurd (Nat.lt_of_lt_of_le (Heap.lt_size ho) (Nat.le_trans I.sz h)) (Nat.lt_irrefl _)
theorem Inv.cne (I : Inv X pins σ H s) : ∀ x c, X.env.cells.lookup x = some c → c ≠ X.env.locals := fun x c e z => by
  obtain ⟨v, o, ho, hd⟩ := I.cell x c e
  obtain ⟨m, ⟨o', es, ep, ho', hd', _⟩, _⟩ := I.loc
  rw [z, ho'] at ho; cases ho; rw [hd'] at hd; cases hd
theorem Inv.funs (I : Inv X pins σ H s) : s.heap.FunFrames X.base X.outer := by
  have all : ∀ (l : List Env), (∀ b ∈ frs l, b ∈ X.fs) → X.s_0.heap.FunFrames X.base l → s.heap.FunFrames X.base l := by
    intro l
    induction l with
    | nil => intro _ _; trivial
    | cons env r ih =>
      intro hs hl
      obtain ⟨hk, ⟨L, o, hf, hn, ho, hd⟩, hr⟩ := hl
      have hL : L ∈ X.fs := hs L (by unfold frs; rw [List.filterMap_cons, hf]; exact List.mem_cons_self)
      obtain ⟨sl, e⟩ := I.base.slot L o ho (I.ok.frf L hL) hL fun z => I.ok.exfs L z hL
      exact ⟨hk, ⟨L, _, hf, hn, e, hd⟩, ih (fun b hb => hs b (by unfold frs; rw [List.filterMap_cons, hf]; exact List.mem_cons_of_mem _ hb)) hr⟩
  exact all X.outer (fun _ hb => hb) I.ok.funs
theorem Inv.stack (I : Inv X pins σ H s) : s.heap.FunFrames X.base X.stack := by
  rcases I.ok.stk with e | ⟨e, hf⟩
  · rw [e]; exact I.funs
  · rw [e]
    obtain ⟨m, hn, _⟩ := I.loc
    refine .cons (by rw [I.ok.kind]; decide) hf hn ?_ I.funs
    exact Heap.get?_none_of_le (Nat.le_trans I.ok.bsz I.ok.above)
theorem Inv.stkSub (I : Inv X pins σ H s) : ∀ b ∈ frs X.stack, b ∈ X.env.locals :: X.fs := fun b hb => by
  rcases I.ok.stk with e | ⟨e, hf⟩
  · rw [e] at hb; exact List.mem_cons_of_mem _ hb
  · rw [e] at hb
    unfold frs at hb
    rw [List.filterMap_cons, hf] at hb
    exact hb
theorem Inv.stkFree (I : Inv X pins σ H s) : ∀ b ∈ frs X.stack, H b = none := fun b hb => by
  rcases List.mem_cons.mp (I.stkSub b hb) with e | hb
  · rw [e]; exact I.free
  · obtain ⟨_, o, ho, _⟩ := I.ok.funs.mem hb
    exact I.base.free b o ho (I.ok.frf b hb) fun z => I.ok.exfs b z hb
theorem Inv.step {g' : Array GenState} {t' : Nat} {d' : Drawn} {ch : List Addr} (I : Inv X pins σ H s)
    (hch : ∀ b ∈ ch, (b ∈ X.ex ∨ X.s_0.heap.objs.size ≤ b) ∧ b ≠ X.env.locals ∧ (∀ x c, X.env.cells.lookup x = some c → c ≠ b) ∧ ∀ p ∈ X.pn ++ pins, p.1 ≠ b)
    (keep : ∀ b o, b ≠ X.env.locals → b ∉ X.fs → b ∉ ch → s.heap.get? b = some o → H b = none → h'.get? b = some o)
    (slot : ∀ b o, b ≠ X.env.locals → b ∈ X.fs → b ∉ ch → s.heap.get? b = some o → H b = none → ∃ sl, h'.get? b = some { o with slots := sl }) (free : ∀ b o, b ∉ ch → s.heap.get? b = some o → H b = none → H' b = none)
    (there : ∀ b o, b ∉ ch → s.heap.get? b = some o → ∃ o', h'.get? b = some o')
    (tups : ∀ b xs, H b = some (.tup xs) → H' b = some (.tup xs)) (frzs : ∀ b o u, H b = some (.frz o u) → H' b = some (.frz o u)) (tbls : ∀ b ps, H b = some (.tbl ps) → ∃ more, H' b = some (.tbl (ps ++ more)))
    (ns : ∀ m, s.heap.Ns X.env.locals m → h'.Ns X.env.locals m) (hok : HOk X.prog X.w H' h') (hg : AllBare g') :
    Inv X pins σ H' { s with heap := h', gens := g', drawn := d', toks := t' } := by
  have neL : ∀ b o, X.s_0.heap.get? b = some o → b ≠ X.env.locals := fun b o e => Nat.ne_of_lt (Nat.lt_of_lt_of_le (Heap.lt_size e) I.ok.above)
  have neC : ∀ b o, X.s_0.heap.get? b = some o → b ∉ X.ex → b ∉ ch := fun b o e hx hb => by
    rcases (hch b hb).1 with z | z
    · exact hx z
    · exact absurd (Nat.lt_of_lt_of_le (Heap.lt_size e) z) (Nat.lt_irrefl _)
  have cellK : ∀ x c, X.env.cells.lookup x = some c → ∀ v, s.heap.IsCell c v → h'.IsCell c v := fun x c e v ⟨o, ho, hd⟩ => by
    have nch : c ∉ ch := fun z => (hch c z).2.2.1 x c e rfl
    by_cases hc : c ∈ X.fs
    · obtain ⟨sl, q⟩ := slot c o (I.cne x c e) hc nch ho (I.freeC x c e)
      exact ⟨_, q, hd⟩
    · exact ⟨o, keep c o (I.cne x c e) hc nch ho (I.freeC x c e), hd⟩
  refine ⟨I.ok, I.os, hg, ⟨fun b o e n hb hx => ?_, fun b o e n hb hx => ?_, fun b o e n hx => ?_, fun b o e hx => ?_, fun b xs e => tups b xs (I.base.tups b xs e), fun b o xs e => frzs b o xs (I.base.frzs b o xs e), fun b ps e => ?_⟩, ?_, fun x c e => ?_, ?_, fun x c e => ?_, fun p hp => ?_, hok, I.len⟩
  · exact keep b o (neL b o e) hb (neC b o e hx) (I.base.keep b o e n hb hx) (I.base.free b o e n hx)
  · obtain ⟨sl, e1⟩ := I.base.slot b o e n hb hx
    obtain ⟨sl', e2⟩ := slot b _ (neL b o e) hb (neC b o e hx) e1 (I.base.free b o e n hx)
    exact ⟨sl', e2⟩
  · obtain ⟨o', e1⟩ := I.base.there b o e hx
    exact free b o' (neC b o e hx) e1 (I.base.free b o e n hx)
  · obtain ⟨o', e1⟩ := I.base.there b o e hx
    exact there b o' (neC b o e hx) e1
  · obtain ⟨m1, e1⟩ := I.base.tbls b ps e
    obtain ⟨m2, e2⟩ := tbls b _ e1
    exact ⟨m1 ++ m2, by rw [e2, Array.append_assoc]⟩
  · obtain ⟨m, hn, hl⟩ := I.loc
    refine ⟨m, ns m hn, fun i x v e1 e2 e3 => ?_⟩
    obtain ⟨u, r, l⟩ := hl i x v e1 e2 e3
    refine ⟨u, r, ?_⟩
    rcases l with l | ⟨k, c, e, z⟩
    · exact .inl l
    · exact .inr ⟨k, c, e, cellK x c e _ z⟩
  · obtain ⟨v, z⟩ := I.cell x c e
    exact ⟨v, cellK x c e v z⟩
  · obtain ⟨m, ⟨o, _, _, ho, _⟩, _⟩ := I.loc
    exact free _ o (fun z => (hch _ z).2.1 rfl) ho I.free
  · obtain ⟨v, o, ho, hd⟩ := I.cell x c e
    exact free c o (fun z => (hch c z).2.2.1 x c e rfl) ho (I.freeC x c e)
  · obtain ⟨e, n, ne, nf, d⟩ := I.pin p hp
    have nch : p.1 ∉ ch := fun z => (hch p.1 z).2.2.2 p hp rfl
    exact ⟨keep p.1 p.2 ne nf nch e n, free p.1 p.2 nch e n, ne, nf, d⟩
theorem Inv.un {t' : Nat} (I : Inv X pins σ H s) (u : Un X.fs [] H H' s.heap h') (hok : HOk X.prog X.w H' h') : Inv X pins σ H' { s with heap := h', toks := t' } := by
  obtain ⟨m, ⟨o, es, ep, ho, r⟩, _⟩ := id I.loc
  obtain ⟨sl, hL⟩ := u.any ho I.free (by simp)
  exact I.step (g' := s.gens) (d' := s.drawn) (ch := []) (fun _ z => nomatch z) (fun b o _ hb _ e n => u.keep b o e n hb (by simp)) (fun b o _ hb _ e n => u.slot b o e n hb (by simp)) (fun b o _ e n => u.free b o e n (by simp)) (fun b o _ e => u.there b o e (by simp)) u.tups u.frzs u.tbls (fun m' hm => by
    obtain ⟨o', es', ep', ho', r'⟩ := hm
    rw [ho] at ho'; cases ho'
    exact ⟨_, es', ep', hL, r'⟩) hok I.bare
theorem Inv.call {g' : Array GenState} {t' : Nat} {d' : Drawn} {ch : List Addr} (I : Inv X pins σ H s) (u : Un (frs X.stack) ch H H' s.heap h') (hok : HOk X.prog X.w H' h') (hg : AllBare g')
    (hch : ∀ b ∈ ch, (b ∈ X.ex ∨ X.s_0.heap.objs.size ≤ b) ∧ b ≠ X.env.locals ∧ (∀ x c, X.env.cells.lookup x = some c → c ≠ b) ∧ ∀ p ∈ X.pn ++ pins, p.1 ≠ b) :
    Inv X pins σ H' { s with heap := h', gens := g', drawn := d', toks := t' } := by
  obtain ⟨m, ⟨o, es, ep, ho, r⟩, _⟩ := id I.loc
  obtain ⟨sl, hL⟩ := u.any ho I.free fun z => (hch _ z).2.1 rfl
  exact I.step (ch := ch) hch (fun b o hL hb hc e n => u.keep b o e n (fun z => (List.mem_cons.mp (I.stkSub b z)).elim hL hb) hc) (fun b o _ _ hc e n => u.any e n hc) (fun b o hc e n => u.free b o e n hc) (fun b o hc e => u.there b o e hc) u.tups u.frzs u.tbls (fun m' hm => by
    obtain ⟨o', es', ep', ho', r'⟩ := hm
    rw [ho] at ho'; cases ho'
    exact ⟨_, es', ep', hL, r'⟩) hok hg
theorem Inv.turned {t' : Nat} {it : Addr} (I : Inv X pins σ H s) (k : ∀ b o, b ≠ it → s.heap.get? b = some o → h'.get? b = some o) (hn : H it = none) (hL : it ≠ X.env.locals)
    (h1 : it ∈ X.ex ∨ X.s_0.heap.objs.size ≤ it) (h2 : ∀ x c, X.env.cells.lookup x = some c → c ≠ it) (h3 : ∀ p ∈ X.pn ++ pins, p.1 ≠ it) : Inv X pins σ H { s with heap := h', toks := t' } := by
  have nit : ∀ b u, H b = some u → b ≠ it := fun b u e z => by rw [z, hn] at e; cases e
  refine I.step (g' := s.gens) (d' := s.drawn) (ch := [it]) (fun b hb => ?_) (fun b o _ _ hc e _ => k b o (fun z => hc (by simp [z])) e) (fun b o _ _ hc e _ => ⟨o.slots, k b o (fun z => hc (by simp [z])) e⟩) (fun _ _ _ _ n => n)
    (fun b o hc e => ⟨o, k b o (fun z => hc (by simp [z])) e⟩) (fun _ _ e => e) (fun _ _ _ e => e) (fun b ps e => ⟨#[], by rw [e]; simp⟩) (fun m hm => ?_) (fun b u e => ?_) I.bare
  · have e : b = it := by simpa using hb
    subst e
    exact ⟨h1, hL, h2, h3⟩
  · obtain ⟨o, es, ep, ho, r⟩ := hm
    exact ⟨o, es, ep, k _ o (Ne.symm hL) ho, r⟩
  · refine (I.hok b u e).stay (fun c v hc q => k c v ?_ q) (fun _ q => q) fun _ _ q => q
    rcases hc with z | z
    · rw [z]; exact nit b u e
    · exact nit c _ z
theorem Inv.tok (I : Inv X pins σ H s) (t : Nat) : Inv X pins σ H { s with toks := t } := I.un (h' := s.heap) (t' := t) Un.refl I.hok
theorem Inv.kept {t' : Nat} (I : Inv X pins σ H s) (k : ∀ b u, s.heap.get? b = some u → h'.get? b = some u) : Inv X pins σ H { s with heap := h', toks := t' } := I.un (Un.kept k) (I.hok.kept k)
theorem Inv.laid {a : Addr} {o : HO} {t' : Nat} (I : Inv X pins σ H s) (k : ∀ b u, s.heap.get? b = some u → h'.get? b = some u) (hp : s.heap.objs.size ≤ a) (new : ObjOk X.prog X.w (upd H a o) h' a o) :
    Inv X pins σ (upd H a o) { s with heap := h', toks := t' } := I.un (Un.laid k hp (I.hok.fresh hp)) (I.hok.laid k hp new)
theorem Inv.write {x e : Addr} {o : HO} {t' : Nat} (I : Inv X pins σ H s) (mu : Mut (H x)) (he : e = x ∨ H e = some (.own x)) (k : ∀ b u, b ≠ e → s.heap.get? b = some u → h'.get? b = some u) (heo : ∃ u, h'.get? e = some u)
    (new : ObjOk X.prog X.w (upd H x o) h' x o) : Inv X pins σ (upd H x o) { s with heap := h', toks := t' } := I.un (Un.write mu he k heo) (I.hok.write mu he k heo new)
theorem Inv.weak {σ' : List (Option V)} (I : Inv X pins σ H s) (hl : σ'.length = σ.length) (w : ∀ (i : Nat) v, σ'[i]? = some (some v) → σ[i]? = some (some v)) : Inv X pins σ' H s :=
  ⟨I.ok, I.os, I.bare, I.base, let ⟨m, hn, hl'⟩ := I.loc; ⟨m, hn, fun i x v e1 e2 e3 => hl' i x v e1 (w i v e2) e3⟩, I.cell, I.free, I.freeC, I.pin, I.hok, hl.trans I.len⟩
theorem Inv.pins_of {pins' : List (Addr × Obj)} (I : Inv X pins σ H s) (h : ∀ p ∈ pins', s.heap.get? p.1 = some p.2 ∧ H p.1 = none ∧ p.1 ≠ X.env.locals ∧ p.1 ∉ X.fs ∧ ∀ v, p.2.data ≠ .cell v) : Inv X pins' σ H s :=
  ⟨I.ok, I.os, I.bare, I.base, I.loc, I.cell, I.free, I.freeC, fun p hp => (List.mem_append.mp hp).elim (fun z => I.pin p (List.mem_append_left _ z)) (h p), I.hok, I.len⟩
theorem nodup_ix {N : List Str} (hN : N.Nodup) {i j : Nat} {x : Str} (a : N[i]? = some x) (b : N[j]? = some x) : i = j := by
  obtain ⟨h1, e1⟩ := List.getElem?_eq_some_iff.mp a
  obtain ⟨h2, e2⟩ := List.getElem?_eq_some_iff.mp b
  exact (List.getElem_inj hN).mp (e1.trans e2.symm)
theorem store_ok2 {M : Model} {A : Around} {E : Value → Shared → Prop} {i : Nat} {x : Str} {v : V} {u : Value} {Q : Unit → Shared → Prop} (I : Inv X pins σ H s) (hN : X.N.Nodup) (hi : X.N[i]? = some x) (hx : Loc X.env.scope x) (r : RelV v u)
    (h : ∀ s', Inv X pins (σ.set i (some v)) H s' → (∃ a, Heap.SameBut a s.heap s'.heap ∧ (a = X.env.locals ∨ X.env.cells.lookup x = some a)) → Q () s') (hf : X.fn x = true ∨ X.env.scope.names.lookup x = some .local := by first | exact .inl rfl | exact .inr rfl | assumption) : wpAny M A (storeName X.env x u) Q E s := by
  obtain ⟨m, hn, hl⟩ := id I.loc
  have hcls : (X.env.scope.kind == .class || (X.env.scope.kind == .module && X.env.locals != X.env.globals)) = false := by rw [I.ok.kind]; rfl
  have hiσ : i < σ.length := by rw [I.len]; exact (List.getElem?_eq_some_iff.mp hi).1
  have cne := I.cne
  have tracked : ∀ {a : Addr} {h' : Heap}, (∃ o, s.heap.get? a = some o ∧ H a = none) → Heap.SameBut a s.heap h' → HOk X.prog X.w H h' := fun {a h'} ha hs b ob e => by
    obtain ⟨_, _, hfree⟩ := ha
    refine (I.hok b ob e).stay (fun c w' hc q => (hs.2 c ?_).trans q) (fun _ q => q) fun _ _ q => q
    rintro rfl
    rcases hc with rfl | hc
    · rw [hfree] at e; cases e
    · rw [hfree] at hc; cases hc
  rcases hx with hk | hk
  · refine wpAny_storeName_local hk hn (fun h' hn' hs => ?_) hcls
    obtain ⟨oL, _, _, hoL, _⟩ := id hn
    refine h _ ⟨I.ok, I.os, I.bare, ⟨fun b o e n hb hx => ?_, fun b o e n hb hx => ?_, I.base.free, fun b o e hx => ?_, I.base.tups, I.base.frzs, I.base.tbls⟩, ⟨_, hn', fun j y v' e1 e2 e3 => ?_⟩, fun y c e => ?_, I.free, I.freeC, fun p hp => ?_, tracked ⟨oL, hoL, I.free⟩ hs, by simpa using I.len⟩ ⟨_, hs, .inl rfl⟩
    · exact (hs.2 b (Nat.ne_of_lt (Nat.lt_of_lt_of_le (Heap.lt_size e) I.ok.above))).trans (I.base.keep b o e n hb hx)
    · obtain ⟨sl, e1⟩ := I.base.slot b o e n hb hx
      exact ⟨sl, (hs.2 b (Nat.ne_of_lt (Nat.lt_of_lt_of_le (Heap.lt_size e) I.ok.above))).trans e1⟩
    · obtain ⟨o', e1⟩ := I.base.there b o e hx
      exact ⟨o', (hs.2 b (Nat.ne_of_lt (Nat.lt_of_lt_of_le (Heap.lt_size e) I.ok.above))).trans e1⟩
    · by_cases hj : j = i
      · subst hj
        rw [hi] at e1; cases e1
        rw [List.getElem?_set_self hiσ] at e2
        cases e2
        exact ⟨u, r, .inl ⟨hk, by simp⟩⟩
      · rw [List.getElem?_set_ne (Ne.symm hj)] at e2
        obtain ⟨u', r', q⟩ := hl j y v' e1 e2 e3
        refine ⟨u', r', ?_⟩
        rcases q with ⟨k, e⟩ | ⟨k, c, e, z⟩
        · refine .inl ⟨k, ?_⟩
          have : y ≠ x := fun e => hj (nodup_ix hN e1 (e ▸ hi))
          simp [this, e]
        · exact .inr ⟨k, c, e, z.sameBut hs (cne y c e)⟩
    · obtain ⟨w', z⟩ := I.cell y c e
      exact ⟨w', z.sameBut hs (cne y c e)⟩
    · obtain ⟨e, n, ne, nf, d⟩ := I.pin p hp
      exact ⟨(hs.2 p.1 ne).trans e, n, ne, nf, d⟩
  · have hfn : X.fn x = true := by
      rcases hf with z | z
      · exact z
      · rw [z] at hk; cases hk
    obtain ⟨c, hc⟩ := I.ok.has x (.inl hk)
    obtain ⟨w', z⟩ := I.cell x c hc
    refine wpAny_storeName_cell I.ok.kind hk hc z (fun h' hc' hs => ?_)
    obtain ⟨oc, hoc, hocd⟩ := id z
    refine h { s with heap := h' } ⟨I.ok, I.os, I.bare, ⟨fun b o e n hb hx => ?_, fun b o e n hb hx => ?_, I.base.free, fun b o e hx => ?_, I.base.tups, I.base.frzs, I.base.tbls⟩, ⟨m, hn.sameBut hs (Ne.symm (cne x c hc)), fun j y v' e1 e2 e3 => ?_⟩, fun y c' e => ?_, I.free, I.freeC, fun p hp => ?_, tracked ⟨oc, hoc, I.freeC x c hc⟩ hs, by simpa using I.len⟩ ⟨c, hs, .inr hc⟩
    · exact (hs.2 b (Nat.ne_of_lt (Nat.lt_of_lt_of_le (Heap.lt_size e) (I.ok.cab x c hfn hc)))).trans (I.base.keep b o e n hb hx)
    · obtain ⟨sl, e1⟩ := I.base.slot b o e n hb hx
      exact ⟨sl, (hs.2 b (Nat.ne_of_lt (Nat.lt_of_lt_of_le (Heap.lt_size e) (I.ok.cab x c hfn hc)))).trans e1⟩
    · obtain ⟨o', e1⟩ := I.base.there b o e hx
      exact ⟨o', (hs.2 b (Nat.ne_of_lt (Nat.lt_of_lt_of_le (Heap.lt_size e) (I.ok.cab x c hfn hc)))).trans e1⟩
    · by_cases hj : j = i
      · subst hj
        rw [hi] at e1; cases e1
        rw [List.getElem?_set_self hiσ] at e2
        cases e2
        exact ⟨u, r, .inr ⟨.inl hk, c, hc, hc'⟩⟩
      · rw [List.getElem?_set_ne (Ne.symm hj)] at e2
        obtain ⟨u', r', q⟩ := hl j y v' e1 e2 e3
        refine ⟨u', r', ?_⟩
        rcases q with q | ⟨k, c', e, z'⟩
        · exact .inl q
        · refine .inr ⟨k, c', e, z'.sameBut hs ?_⟩
          rintro rfl
          exact hj (nodup_ix hN e1 (I.ok.inj _ _ _ e hc ▸ hi))
    · by_cases hcc : c' = c
      · subst hcc; exact ⟨_, hc'⟩
      · obtain ⟨w2, z2⟩ := I.cell y c' e
        exact ⟨w2, z2.sameBut hs hcc⟩
    · obtain ⟨e, n, ne, nf, d⟩ := I.pin p hp
      refine ⟨(hs.2 p.1 ?_).trans e, n, ne, nf, d⟩
      intro q
      rw [q, hoc] at e
      have q' : oc = p.2 := Option.some.inj e
      exact d w' (by rw [← q']; exact hocd)
theorem store_ok {M : Model} {A : Around} {E : Value → Shared → Prop} {i : Nat} {x : Str} {v : V} {u : Value} {Q : Unit → Shared → Prop} (I : Inv X pins σ H s) (hN : X.N.Nodup) (hi : X.N[i]? = some x) (hx : Loc X.env.scope x) (r : RelV v u)
    (h : ∀ s', Inv X pins (σ.set i (some v)) H s' → Q () s') (hf : X.fn x = true ∨ X.env.scope.names.lookup x = some .local := by first | exact .inl rfl | exact .inr rfl | assumption) : wpAny M A (storeName X.env x u) Q E s :=
  store_ok2 I hN hi hx r (fun s' I' _ => h s' I') hf
theorem Inv.call' {s' : Shared} {ch : List Addr} (I : Inv X pins σ H s) (ho : s'.os = s.os) (u : Un (frs X.stack) ch H H' s.heap s'.heap) (hok : HOk X.prog X.w H' s'.heap) (hg : AllBare s'.gens)
    (hch : ∀ b ∈ ch, (b ∈ X.ex ∨ X.s_0.heap.objs.size ≤ b) ∧ b ≠ X.env.locals ∧ (∀ x c, X.env.cells.lookup x = some c → c ≠ b) ∧ ∀ p ∈ X.pn ++ pins, p.1 ≠ b) : Inv X pins σ H' s' := by
  obtain ⟨h', g', d', t', o'⟩ := s'
  have e : o' = s.os := ho
  subst e
  exact I.call (g' := g') (t' := t') (d' := d') u hok hg hch
end
abbrev XK := Value → Option Addr → Hp → Prop
abbrev St := List (Option V)
abbrev VK := V → Hp → Prop
abbrev TE := St → Hp → VK → Prop
abbrev TT := St → Hp → (Bool → Hp → Prop) → Prop
abbrev TA := St → Hp → (List V → Hp → Prop) → Prop
structure Ends where
  nx : St → Hp → Prop
  rt : VK
  bk : St → Hp → Prop := fun _ _ => False
  ct : St → Hp → Prop := fun _ _ => False
abbrev TS := Ends → St → Hp → Prop
def EP (X : Cx) (pins : List (Addr × Obj)) (σ : St) (Q : VK) (u : Value) (s' : Shared) : Prop := ∃ v H', Inv X pins σ H' s' ∧ RelV v u ∧ Q v H'
def TP (X : Cx) (pins : List (Addr × Obj)) (σ : St) (Q : Bool → Hp → Prop) (b : Bool) (s' : Shared) : Prop := ∃ H', Inv X pins σ H' s' ∧ Q b H'
def AP (X : Cx) (pins : List (Addr × Obj)) (σ : St) (Q : List V → Hp → Prop) (us : List Value) (s' : Shared) : Prop := ∃ vs H', Inv X pins σ H' s' ∧ Vals vs us ∧ Q vs H'
def SP (X : Cx) (pins : List (Addr × Obj)) (D : Ends) (f : Flow) (s' : Shared) : Prop :=
  match f with
  | .next => ∃ σ' H', Inv X pins σ' H' s' ∧ D.nx σ' H'
  | .brk => ∃ σ' H', Inv X pins σ' H' s' ∧ D.bk σ' H'
  | .cont => ∃ σ' H', Inv X pins σ' H' s' ∧ D.ct σ' H'
  | .ret u => ∃ v σ' H', Inv X pins σ' H' s' ∧ RelV v u ∧ D.rt v H'
def PE (X : Cx) (e : Expr) (t : TE) : Prop :=
  ∀ (pins : List (Addr × Obj)) (s : Shared) (σ : St) (H : Hp) (Q : VK), Inv X pins σ H s → t σ H Q → wpAny (model X.prog X.w) X.A (eval e X.env) (EP X pins σ Q) X.xe s
def PT (X : Cx) (e : Expr) (t : TT) : Prop :=
  ∀ (pins : List (Addr × Obj)) (s : Shared) (σ : St) (H : Hp) (Q : Bool → Hp → Prop), Inv X pins σ H s → t σ H Q → wpAny (model X.prog X.w) X.A (isTrue e X.env (eval e X.env)) (TP X pins σ Q) X.xe s
def PW (X : Cx) (e : Expr) (t : TT) : Prop :=
  ∀ (whole : Sem Value) (pins : List (Addr × Obj)) (s : Shared) (σ : St) (H : Hp) (Q : Bool → Hp → Prop), Inv X pins σ H s → t σ H Q → wpAny (model X.prog X.w) X.A (isTrue e X.env whole) (TP X pins σ Q) X.xe s
theorem PW.pt {X : Cx} {e : Expr} {t : TT} (h : PW X e t) : PT X e t := h _
def PA (X : Cx) (es : List Expr) (t : TA) : Prop :=
  ∀ (pos : Pos) (pins : List (Addr × Obj)) (s : Shared) (σ : St) (H : Hp) (Q : List V → Hp → Prop), Inv X pins σ H s → t σ H Q → wpAny (model X.prog X.w) X.A (spliced (backTo pos (starEach es X.env))) (AP X pins σ Q) X.xe s
def PS (X : Cx) (st : Stmt) (t : TS) : Prop :=
  ∀ (pins : List (Addr × Obj)) (s : Shared) (σ : St) (H : Hp) (D : Ends), Inv X pins σ H s → t D σ H → wpAny (model X.prog X.w) X.A (exec st X.env) (SP X pins D) X.xe s
def PSs (X : Cx) (st : List Stmt) (t : TS) : Prop :=
  ∀ (pins : List (Addr × Obj)) (s : Shared) (σ : St) (H : Hp) (D : Ends), Inv X pins σ H s → t D σ H → wpAny (model X.prog X.w) X.A (execs st X.env) (SP X pins D) X.xe s
theorem thn {α : Type} {t : Sem α} {Q Q' : α → Shared → Prop} {M : Model} {A : Around} {E : Value → Shared → Prop} {s : Shared} (h : wpAny M A t Q E s) (hQ : ∀ a s, Q a s → Q' a s) : wpAny M A t Q' E s := wpAny_mono h hQ fun _ _ x => x
end L2
namespace L2
open PySem PySem.Spec PyProof.Rows
section
variable {X : Cx}
def tVar (i : Nat) : TE := fun σ H Q => ∃ v, σ[i]? = some (some v) ∧ Q v H
def tC (v : V) : TE := fun _ H Q => Q v H
theorem pe_var {i : Nat} {x : Str} {pos : Pos} (hN : X.N[i]? = some x) (hv : Vis X.env.scope x) (hd : (x == ("__debug__" : Str)) = false := by decide) (hcd : (x == ("__classdict__" : Str)) = false := by decide) : PE X (.Name x pos) (tVar i) := by
  intro pins s σ H Q I h
  obtain ⟨v, e, h⟩ := h
  obtain ⟨m, hn, hl⟩ := I.loc
  obtain ⟨u, r, l⟩ := hl i x v hN e hv
  have fin : EP X pins σ Q u s := ⟨v, H, I, r, h⟩
  rcases l with ⟨hk, hm⟩ | ⟨hk, c, hc, hcell⟩
  · exact wpAny_Name (wpAny_loadName_local I.ok.kind hk hn hm fin) hd
  · rcases hk with hk | hk
    · exact wpAny_Name (wpAny_loadName_cell I.ok.kind hk hc hcell fin) hd
    · exact wpAny_Name (wpAny_loadName_free I.ok.kind hk hc hcell fin hcd) hd
theorem pe_int {i j pos} : PE X (.Constant (.int i) j pos) (tC (.int i)) := fun _ _ _ H _ I h => wpAny_Constant_int ⟨.int i, H, I.tok _, ⟨_, rfl⟩, h⟩
theorem pe_non {j pos} : PE X (.Constant .none j pos) (tC .non) := fun _ _ _ H _ I h => Constant_none ⟨.non, H, I, rfl, h⟩
def Gl (X : Cx) (x : Str) : Prop := X.env.kindOf x = some .globalImplicit
theorem ld_glob {E : Value → Shared → Prop} {pins : List (Addr × Obj)} {s : Shared} {σ : St} {H : Hp} {x : Str} {u : Value} {pos : Pos} {Q : Value → Shared → Prop} (I : Inv X pins σ H s) (hg : Gl X x) (hm : X.mg x = some u) (h : Q u s)
    (hd : (x == ("__debug__" : Str)) = false := by decide) : wpAny (model X.prog X.w) X.A (eval (.Name x pos) X.env) Q E s :=
  Calls.Name_function_global I.ok.kind hg (Calls.loadGlobal_global (by rw [I.ok.glob]; exact I.mod.glob.keeps I.bk) hm h) hd
theorem ld_blt {E : Value → Shared → Prop} {pins : List (Addr × Obj)} {s : Shared} {σ : St} {H : Hp} {x : Str} {u : Value} {pos : Pos} {Q : Value → Shared → Prop} (I : Inv X pins σ H s) (hg : Gl X x) (hm : X.mg x = none) (hv : bootBuiltins x = some u) (h : Q u s)
    (hn : x ≠ "__name__" := by decide) (hd : (x == ("__debug__" : Str)) = false := by decide) : wpAny (model X.prog X.w) X.A (eval (.Name x pos) X.env) Q E s := by
  obtain ⟨mb, h1, h2⟩ := I.mod.blt
  exact Calls.Name_function_global I.ok.kind hg (Calls.loadGlobal_builtin (by rw [I.ok.glob]; exact I.mod.glob.keeps I.bk) hm (by rw [I.ok.blt]; exact h1.keeps I.bk) ((h2 x hn).trans hv) h) hd
theorem pe_glob {x : Str} {v : V} {u : Value} {pos : Pos} (hg : Gl X x) (hm : X.mg x = some u) (r : RelV v u) (hd : (x == ("__debug__" : Str)) = false := by decide) : PE X (.Name x pos) (tC v) :=
  fun _ _ _ H _ I h => ld_glob I hg hm ⟨v, H, I, r, h⟩ hd
variable {a b : Expr} {ta tb : TE} {pos : Pos}
def PC (X : Cx) (op : CmpOp) (a b : Expr) (t : TE) : Prop :=
  ∀ (pins : List (Addr × Obj)) (s : Shared) (σ : St) (H : Hp) (Q : VK), Inv X pins σ H s → t σ H Q →
    wpAny (model X.prog X.w) X.A (eval a X.env) (fun v s₁ => wpAny (model X.prog X.w) X.A (eval b X.env) (fun u s₂ => wpAny (model X.prog X.w) X.A (compareOp op v u) (EP X pins σ Q) X.xe s₂) X.xe s₁) X.xe s
theorem nobehind (b : Expr) {op : CmpOp} (h : op ≠ .In) (h2 : op ≠ .NotIn) : behindInMarks op b = false := by
  have e1 : (op == CmpOp.In) = false := by cases op <;> first | rfl | exact absurd rfl h
  have e2 : (op == CmpOp.NotIn) = false := by cases op <;> first | rfl | exact absurd rfl h2
  cases b <;> simp [behindInMarks, e1, e2]
def tIsN (ta : TE) : TE := fun σ H Q => ta σ H fun x H1 => Q (.bl (decide (x = .non))) H1
def tNotN (ta : TE) : TE := fun σ H Q => ta σ H fun x H1 => Q (.bl (!decide (x = .non))) H1
theorem RelV.none_iff {x : V} {v : Value} (r : RelV x v) : (v == Value.none) = decide (x = .non) := by
  cases x with
  | non => cases r; rfl
  | bl _ => cases r; rfl
  | int _ => obtain ⟨t, rfl⟩ := r; rfl
  | str _ => obtain ⟨t, rfl⟩ := r; rfl
  | byt _ => obtain ⟨t, rfl⟩ := r; rfl
  | flt _ => obtain ⟨t, rfl⟩ := r; rfl
  | ref _ => cases r; rfl
  | ty _ => cases r; rfl
theorem pc_isN {j pos'} (ha : PE X a ta) : PC X .Is a (.Constant .none j pos') (tIsN ta) := by
  intro pins s σ H Q I h
  refine thn (ha pins s σ H _ I h) fun v s1 ⟨x, H1, I1, r1, q1⟩ => ?_
  exact Constant_none (is_none_gen ⟨.bl _, H1, I1, by rw [r1.none_iff]; rfl, q1⟩)
theorem pc_notN {j pos'} (ha : PE X a ta) : PC X .IsNot a (.Constant .none j pos') (tNotN ta) := by
  intro pins s σ H Q I h
  refine thn (ha pins s σ H _ I h) fun v s1 ⟨x, H1, I1, r1, q1⟩ => ?_
  exact Constant_none (isnot_none_gen ⟨.bl _, H1, I1, by rw [r1.none_iff]; rfl, q1⟩)
def tB (t : TE) : TT := fun σ H Q => t σ H fun x H1 => ∃ c, x = .bl c ∧ Q c H1
theorem pe_cmp {op : CmpOp} {t : TE} (h : PC X op a b t) (h1 : behindInMarks op b = false := by first | exact nobehind _ (by decide) (by decide) | rfl) : PE X (.Compare a [op] [b] pos) t := fun pins s σ H Q I hw => wpAny_Compare1 (h pins s σ H Q I hw) h1
theorem pt_cmp {op : CmpOp} {t : TE} (h : PC X op a b t) (h1 : behindInMarks op b = false := by first | exact nobehind _ (by decide) (by decide) | rfl) : PT X (.Compare a [op] [b] pos) (tB t) := by
  intro pins s σ H Q I hw
  refine wpAny_isTrue_Compare1 (thn (h pins s σ H _ I hw) fun v s1 h1 => thn h1 fun u s2 h2 => thn h2 fun c s3 ⟨x, H1, I1, r1, q1⟩ => ?_) h1
  obtain ⟨d, rfl, q⟩ := q1
  cases r1
  exact wpAny_truthy_bool ⟨H1, I1, q⟩
theorem pt_val {e : Expr} {t : TE} (h : PE X e t) (he : ∀ whole, isTrue e X.env whole = (do let v ← whole; standAt e.pos; holding [v] (truthy v)) := by intro _; rfl) : PT X e (tB t) := by
  intro pins s σ H Q I hw
  refine isTrue_plain (thn (h pins s σ H _ I hw) fun v s1 ⟨x, H1, I1, r1, q1⟩ => ?_) (he _)
  obtain ⟨d, rfl, q⟩ := q1
  cases r1
  exact wpAny_truthy_bool ⟨H1, I1, q⟩
variable {tA tB' : TT} {rest : List Expr}
def tOr (t u : TT) : TT := fun σ H Q => t σ H fun c H1 => if c = true then Q true H1 else u σ H1 Q
def tNot (t : TT) : TT := fun σ H Q => t σ H fun c H1 => Q (!c) H1
theorem pw_or1 (ha : PT X a tA) : PW X (.BoolOp .Or [a] pos) tA := by
  intro wh pins s σ H Q I h
  refine isTrue_or (thn (ha pins s σ H Q I h) fun c s1 e => ?_)
  cases c with
  | false => exact isTrue_or_nil e
  | true => exact e
theorem pw_or (ha : PT X a tA) (hb : PW X (.BoolOp .Or (b :: rest) pos) tB') : PW X (.BoolOp .Or (a :: b :: rest) pos) (tOr tA tB') := by
  intro wh pins s σ H Q I h
  refine isTrue_or (thn (ha pins s σ H _ I h) fun c s1 ⟨H1, I1, q1⟩ => ?_)
  cases c with
  | true => exact ⟨H1, I1, q1⟩
  | false => exact hb wh pins s1 σ H1 Q I1 q1
theorem pt_not (ha : PT X a tA) : PT X (.UnaryOp .Not a pos) (tNot tA) := by
  intro pins s σ H Q I h
  exact isTrue_not (ha pins s σ H (fun c H1 => Q (!c) H1) I h)
def tAndV (ta tb : TE) : TE := fun σ H Q => ta σ H fun x H1 => ∃ c, x = .bl c ∧ if c = true then tb σ H1 Q else Q (.bl false) H1
def tOrV (ta tb : TE) : TE := fun σ H Q => ta σ H fun x H1 => ∃ c, x = .bl c ∧ if c = true then Q (.bl true) H1 else tb σ H1 Q
theorem pe_one {op} {t : TE} (h : PE X a t) : PE X (.BoolOp op [a] pos) t := fun pins s σ H Q I hw => BoolOp_one (h pins s σ H Q I hw)
theorem pe_and (ha : PE X a ta) (hb : PE X (.BoolOp .And (b :: rest) pos) tb) : PE X (.BoolOp .And (a :: b :: rest) pos) (tAndV ta tb) := by
  intro pins s σ H Q I h
  refine BoolOp_and (thn (ha pins s σ H _ I h) fun v s1 ⟨x, H1, I1, r1, q1⟩ => ?_)
  obtain ⟨c, rfl, q1⟩ := q1
  cases r1
  refine wpAny_truthy_bool ?_
  cases c with
  | true => exact hb pins s1 σ H1 Q I1 q1
  | false => exact ⟨.bl false, H1, I1, rfl, q1⟩
theorem pe_or (ha : PE X a ta) (hb : PE X (.BoolOp .Or (b :: rest) pos) tb) : PE X (.BoolOp .Or (a :: b :: rest) pos) (tOrV ta tb) := by
  intro pins s σ H Q I h
  refine BoolOp_or (thn (ha pins s σ H _ I h) fun v s1 ⟨x, H1, I1, r1, q1⟩ => ?_)
  obtain ⟨c, rfl, q1⟩ := q1
  cases r1
  refine wpAny_truthy_bool ?_
  cases c with
  | false => exact hb pins s1 σ H1 Q I1 q1
  | true => exact ⟨.bl true, H1, I1, rfl, q1⟩
def tIf (t : TT) (ta tb : TE) : TE := fun σ H Q => t σ H fun c H1 => if c = true then ta σ H1 Q else tb σ H1 Q
theorem pe_ifExp {c : Expr} (hc : PT X c tA) (ha : PE X a ta) (hb : PE X b tb) : PE X (.IfExp c a b pos) (tIf tA ta tb) := by
  intro pins s σ H Q I h
  refine wpAny_IfExp (thn (hc pins s σ H _ I h) fun d s1 ⟨H1, I1, q1⟩ => ?_)
  cases d with
  | true => exact ha pins s1 σ H1 Q I1 q1
  | false => exact hb pins s1 σ H1 Q I1 q1
end
end L2
namespace L2
open PySem PySem.Spec PyProof.Rows
def SqL (K : PySem.W.Frag) (H : Hp) (a : Addr) (xs : List V) : Prop :=
  Rd H a (.lst xs) ∨
    ∃ (o : Obj) (its : Array Value) (n : Nat), K.lookup a = some o ∧ o.cls = .type "list" ∧ o.dict = none ∧ o.data = .seq its n ∧ its.size ≤ sizeLine ∧ Vals xs its.toList
def SqT (K : PySem.W.Frag) (H : Hp) (a : Addr) (xs : List V) : Prop :=
  Rd H a (.tup xs) ∨
    ∃ (o : Obj) (its : Array Value) (n : Nat), K.lookup a = some o ∧ o.cls = .type "tuple" ∧ o.data = .seq its n ∧ its.size ≤ sizeLine ∧ Vals xs its.toList
def absV : Value → Option V
  | .none => some .non
  | .bool b => some (.bl b)
  | .int i _ => some (.int i)
  | .str x _ => some (.str x)
  | .bytes b _ => some (.byt b)
  | .float b _ => some (.flt b)
  | .ref a => some (.ref a)
  | .type n => some (.ty n)
  | _ => none
theorem RelV.abs {x : V} {u : Value} (r : RelV x u) : absV u = some x := by
  cases x with
  | non => cases r; rfl
  | bl _ => cases r; rfl
  | int _ => obtain ⟨t, rfl⟩ := r; rfl
  | str _ => obtain ⟨t, rfl⟩ := r; rfl
  | byt _ => obtain ⟨t, rfl⟩ := r; rfl
  | flt _ => obtain ⟨t, rfl⟩ := r; rfl
  | ref _ => cases r; rfl
  | ty _ => cases r; rfl
theorem RelV.inj {x y : V} {u : Value} (r : RelV x u) (q : RelV y u) : x = y := Option.some.inj (r.abs.symm.trans q.abs)
theorem Vals.inj : ∀ {xs ys : List V} {us : List Value}, Vals xs us → Vals ys us → xs = ys
  | _, _, _, .nil, .nil => rfl
  | _, _, _, .cons r t, .cons r' t' => by rw [r.inj r', Vals.inj t t']
section
variable {X : Cx} {pins : List (Addr × Obj)} {σ : St} {H : Hp} {s : Shared} {a : Addr} {xs ys : List V}
theorem SqL.of {K : PySem.W.Frag} (h : H a = some (.lst xs)) : SqL K H a xs := .inl (.inl h)
theorem SqT.of {K : PySem.W.Frag} (h : H a = some (.tup xs)) : SqT K H a xs := .inl (.inl h)
theorem Inv.list (I : Inv X pins σ H s) (h : SqL X.K H a xs) : ∃ its : List Value, Vals xs its ∧ PlainL s.heap a its.toArray ∧ xs.length ≤ sizeLine := by
  rcases h with h | ⟨o, its, n, hk, hc, hd, hs, hz, r⟩
  · obtain ⟨z, its, n, r, e⟩ := h.ok I.hok
    exact ⟨its, r, ⟨_, n, e, rfl, rfl, rfl⟩, z⟩
  · refine ⟨its.toList, r, ⟨o, n, I.kIn a o hk, hc, hd, by simpa using hs⟩, ?_⟩
    have e := r.length
    simp only [Array.length_toList] at e
    omega
theorem Inv.tuple (I : Inv X pins σ H s) (h : SqT X.K H a xs) : ∃ its : List Value, Vals xs its ∧ IsTup s.heap a its.toArray ∧ xs.length ≤ sizeLine := by
  rcases h with h | ⟨o, its, n, hk, hc, hs, hz, r⟩
  · obtain ⟨z, its, r, p⟩ := h.ok I.hok
    exact ⟨its, r, p, z⟩
  · refine ⟨its.toList, r, ⟨o, I.kIn a o hk, hc, n, by simpa using hs⟩, ?_⟩
    have e := r.length
    simp only [Array.length_toList] at e
    omega
theorem Inv.list_inj (I : Inv X pins σ H s) (h : SqL X.K H a xs) (h' : SqL X.K H a ys) : xs = ys := by
  obtain ⟨its, r, ⟨o, n, e, _, _, d⟩, _⟩ := I.list h
  obtain ⟨its', r', ⟨o', n', e', _, _, d'⟩, _⟩ := I.list h'
  rw [e] at e'; cases e'
  rw [d] at d'
  injection d' with d1 _
  have : its = its' := by simpa using congrArg Array.toList d1
  subst this
  exact r.inj r'
end
abbrev Cx.wish (X : Cx) (E : Value → Shared → Prop) : Cx := { X with xe := E }
abbrev Cx.nox (X : Cx) : Cx := X.wish fun _ _ => False
theorem Cx.Ok.wish {X : Cx} (ok : X.Ok) (E : Value → Shared → Prop) : (X.wish E).Ok :=
  ⟨ok.mod, ok.kind, ok.glob, ok.blt, ok.above, ok.inj, ok.has, ok.cab, ok.hd, ok.frames, ok.stk, ok.exf, ok.bs, ok.bsz, ok.noex, ok.exfs, ok.funs, ok.frf⟩
theorem Cx.Ok.unwish {X : Cx} {E : Value → Shared → Prop} (ok : (X.wish E).Ok) : X.Ok :=
  ⟨ok.mod, ok.kind, ok.glob, ok.blt, ok.above, ok.inj, ok.has, ok.cab, ok.hd, ok.frames, ok.stk, ok.exf, ok.bs, ok.bsz, ok.noex, ok.exfs, ok.funs, ok.frf⟩
section
variable {X : Cx} {pins : List (Addr × Obj)} {σ : St} {H : Hp} {s : Shared} {E : Value → Shared → Prop}
theorem Inv.wish (I : Inv X pins σ H s) (E : Value → Shared → Prop) : Inv (X.wish E) pins σ H s := ⟨I.ok.wish E, I.os, I.bare, I.base, I.loc, I.cell, I.free, I.freeC, I.pin, I.hok, I.len⟩
theorem Inv.unwish (I : Inv (X.wish E) pins σ H s) : Inv X pins σ H s := ⟨I.ok.unwish, I.os, I.bare, I.base, I.loc, I.cell, I.free, I.freeC, I.pin, I.hok, I.len⟩
theorem SP.unwish {D : Ends} {f : Flow} {s' : Shared} (h : SP (X.wish E) pins D f s') : SP X pins D f s' := by
  cases f with
  | next => obtain ⟨σ', H', I, q⟩ := h; exact ⟨σ', H', I.unwish, q⟩
  | brk => obtain ⟨σ', H', I, q⟩ := h; exact ⟨σ', H', I.unwish, q⟩
  | cont => obtain ⟨σ', H', I, q⟩ := h; exact ⟨σ', H', I.unwish, q⟩
  | ret u => obtain ⟨v, σ', H', I, r, q⟩ := h; exact ⟨v, σ', H', I.unwish, r, q⟩
theorem PSs.nox {st : List Stmt} {t : TS} (h : PSs X.nox st t) : PSs X st t := fun pins s σ H D I hw =>
  wpAny_mono (h pins s σ H D (I.wish _) hw) (fun _ _ q => q.unwish) fun _ _ z => False.elim z
end
section
variable {X : Cx} {st : Stmt} {rest : List Stmt} {t u : TS} {e : Expr} {te : TE} {pos : Pos}
def tNext : TS := fun D σ H => D.nx σ H
def tSeq (t u : TS) : TS := fun D σ H => t { D with nx := u D } σ H
theorem pss_nil : PSs X [] tNext := fun _ _ σ H _ I h => wpAny_execs_nil ⟨σ, H, I, h⟩
theorem pss_cons (h1 : PS X st t) (h2 : PSs X rest u) : PSs X (st :: rest) (tSeq t u) := by
  intro pins s σ H D I h
  refine wpAny_execs_cons (thn (h1 pins s σ H { D with nx := u D } I h) fun f s1 q => ?_)
  cases f with
  | next =>
    obtain ⟨σ', H', I', q⟩ := q
    exact h2 pins s1 σ' H' D I' q
  | ret v => exact q
  | brk => exact q
  | cont => exact q
theorem pss_one (h1 : PS X st t) : PSs X [st] t := by
  intro pins s σ H D I h
  refine wpAny_execs_cons (thn (h1 pins s σ H D I h) fun f s1 q => ?_)
  cases f with
  | next => exact wpAny_execs_nil q
  | ret v => exact q
  | brk => exact q
  | cont => exact q
theorem Inv.quiet {pins : List (Addr × Obj)} {σ : St} {H : Hp} {s : Shared} (I : Inv X pins σ H s) : interactive X.env = false := by simp [interactive, I.ok.kind]
def tDrop (te : TE) : TS := fun D σ H => te σ H fun _ H1 => D.nx σ H1
theorem ps_expr (he : PE X e te) (hs : swapsWith e none pos.line X.env = pure false := by rfl) : PS X (.Expr e pos) (tDrop te) := by
  intro pins s σ H D I h
  exact wpAny_Expr_any (thn (he pins s σ H _ I h) fun v s1 ⟨x, H1, I1, r1, q1⟩ => ⟨σ, H1, I1, q1⟩) I.quiet hs
def tRet (te : TE) : TS := fun D σ H => te σ H D.rt
theorem ps_ret (he : PE X e te) : PS X (.Return (some e) pos) (tRet te) := by
  intro pins s σ H D I h
  exact wpAny_Return_some (thn (he pins s σ H _ I h) fun v s1 ⟨x, H1, I1, r1, q1⟩ => ⟨x, σ, H1, I1, r1, q1⟩)
def tIfS (c : TT) (t u : TS) : TS := fun D σ H => c σ H fun b H1 => if b = true then t D σ H1 else u D σ H1
theorem ps_if {c : Expr} {a b : List Stmt} {tc : TT} (hc : PT X c tc) (ha : PSs X a t) (hb : PSs X b u) : PS X (.If c a b pos) (tIfS tc t u) := by
  intro pins s σ H D I h
  refine wpAny_If (thn (hc pins s σ H _ I h) fun d s1 ⟨H1, I1, q1⟩ => ?_)
  cases d with
  | true => exact ha pins s1 σ H1 D I1 q1
  | false => exact hb pins s1 σ H1 D I1 q1
end
abbrev TG := V → St → Hp → (St → Hp → Prop) → Prop
abbrev TGs := List V → St → Hp → (St → Hp → Prop) → Prop
def PG (X : Cx) (target : Expr) (t : TG) : Prop :=
  ∀ (pins : List (Addr × Obj)) (s : Shared) (σ : St) (H : Hp) (v : V) (u : Value) (Q : St → Hp → Prop), Inv X pins σ H s → RelV v u → t v σ H Q →
    wpAny (model X.prog X.w) X.A (assign target X.env u) (fun _ s' => ∃ σ' H', Inv X pins σ' H' s' ∧ Q σ' H') X.xe s
def PGs (X : Cx) (ts : List Expr) (t : TGs) : Prop :=
  ∀ (pins : List (Addr × Obj)) (s : Shared) (σ : St) (H : Hp) (vs : List V) (us : List Value) (Q : St → Hp → Prop), Inv X pins σ H s → Vals vs us → t vs σ H Q →
    wpAny (model X.prog X.w) X.A (assignInOrder ((assignEach ts X.env).map (·.2)) us) (fun _ s' => ∃ σ' H', Inv X pins σ' H' s' ∧ Q σ' H') X.xe s
section
variable {X : Cx} {pos : Pos}
def gName (i : Nat) : TG := fun v σ H Q => Q (σ.set i (some v)) H
theorem pg_name {i : Nat} {x : Str} (hN : X.N.Nodup) (hi : X.N[i]? = some x) (hx : Loc X.env.scope x) (hf : X.fn x = true ∨ X.env.scope.names.lookup x = some .local := by first | exact .inl rfl | exact .inr rfl | assumption) : PG X (.Name x pos) (gName i) := by
  intro pins s σ H v u Q I r h
  exact wpAny_assign_Name (store_ok I hN hi hx r (fun s' I' => ⟨_, H, I', h⟩) hf)
def gNil : TGs := fun vs σ H Q => vs = [] ∧ Q σ H
def gCons (t : TG) (u : TGs) : TGs := fun vs σ H Q => ∃ v r, vs = v :: r ∧ t v σ H fun σ' H' => u r σ' H' Q
theorem pgs_nil : PGs X [] gNil := by
  intro pins s σ H vs us Q I r h
  obtain ⟨e, h⟩ := h
  subst e
  cases r
  exact assignInOrder_nil ⟨σ, H, I, h⟩
theorem pgs_cons {e : Expr} {es : List Expr} {t : TG} {u : TGs} (h1 : PG X e t) (h2 : PGs X es u)
    (hs : (assignEach (e :: es) X.env).map (·.2) = assign e X.env :: (assignEach es X.env).map (·.2) := by rfl) : PGs X (e :: es) (gCons t u) := by
  intro pins s σ H vs us Q I r h
  obtain ⟨v, vr, e1, h⟩ := h
  subst e1
  cases r with
  | cons r rr =>
    rw [hs]
    refine assignInOrder_cons (thn (h1 pins s σ H _ _ _ I r h) fun _ s1 ⟨σ1, H1, I1, q1⟩ => ?_)
    exact h2 pins s1 σ1 H1 _ _ Q I1 rr q1
def gTup (K : PySem.W.Frag) (n : Nat) (t : TGs) : TG := fun v σ H Q => ∃ a xs, v = .ref a ∧ SqT K H a xs ∧ xs.length = n ∧ t xs σ H Q
theorem pg_tup {es : List Expr} {k : Nat} {t : TGs} {n : Nat} (hc : X.calm = true) (h : PGs X es t)
    (hn : (assignEach es X.env).length = n := by rfl) (hst : (assignEach es X.env).findIdx? (·.1) = none := by rfl) : PG X (.Tuple es k pos) (gTup X.K n t) := by
  intro pins s σ H v u Q I r hw
  obtain ⟨a, xs, e1, hq, hl, hw⟩ := hw
  subst e1
  cases r
  obtain ⟨its, rv, ht, hz⟩ := I.tuple hq
  refine assign_Tuple_tuple (I.ok.hd hc) ht (by simp [hn, ← hl, rv.length]) hst fun h' hx => ?_
  have I1 : Inv X pins σ H { s with heap := h' } := I.kept (t' := s.toks) fun b o e => hx b o (Nat.ne_of_lt (Heap.lt_size e)) e
  exact h pins _ σ H xs _ Q I1 (by simpa using rv) hw
def tAsg (te : TE) (g : TG) : TS := fun D σ H => te σ H fun x H1 => g x σ H1 D.nx
theorem ps_set {i : Nat} {x : Str} {e : Expr} {te : TE} {pos' : Pos} (hN : X.N.Nodup) (hi : X.N[i]? = some x) (hx : Loc X.env.scope x) (he : PE X e te) (hs : swapsWith e (some (.Name x pos')) pos.line X.env = pure false := by rfl) (hf : X.fn x = true ∨ X.env.scope.names.lookup x = some .local := by first | exact .inl rfl | exact .inr rfl | assumption) :
    PS X (.Assign [.Name x pos'] e pos) (tAsg te (gName i)) := by
  intro pins s σ H D I h
  refine wpAny_Assign_Name (thn (he pins s σ H _ I h) fun v s1 ⟨y, H1, I1, r1, q1⟩ => ?_) hs
  exact store_ok I1 hN hi hx r1 (fun s2 I2 => ⟨_, H1, I2, q1⟩) hf
end
section
variable {X : Cx} {pos : Pos}
def tWhile (c : TT) (tb : TS) : TS := fun D σ H => ∃ W : Nat → St → Hp → Prop, (∃ m, W m σ H) ∧ ∀ m σ H, W m σ H →
  c σ H fun b H1 => if b = true then ∃ N : St → Hp → Prop, (∀ σ' H', N σ' H' → ∃ m', m' < m ∧ W m' σ' H') ∧ tb { D with nx := N, ct := N, bk := D.nx } σ H1 else D.nx σ H1
theorem ps_while {c : Expr} {body : List Stmt} {tc : TT} {tb : TS} (hp : PassesOwn (model X.prog X.w) X.A X.env X.xe) (hc : PT X c tc) (hb : PSs X body tb) : PS X (.While c body [] pos) (tWhile tc tb) := by
  intro pins s σ H D I h
  obtain ⟨W, ⟨m0, w0⟩, turn⟩ := h
  refine wpAny_While (codeAny_whileLoop (fun n s' => ∃ σ' H', Inv X pins σ' H' s' ∧ W n σ' H') ?_ m0 ⟨σ, H, I, w0⟩)
  rintro n s1 ⟨σ1, H1, I1, w1⟩
  refine wpAny_passesOwn hp (thn (hc pins s1 σ1 H1 _ I1 (turn n σ1 H1 w1)) fun b s2 ⟨H2, I2, q2⟩ => ?_)
  cases b with
  | true =>
    obtain ⟨N, hN, q2⟩ := q2
    rw [if_pos rfl]
    refine wpAny_passesOwn hp (thn (hb pins s2 σ1 H2 _ I2 q2) fun f s3 q3 => ?_)
    cases f with
    | next =>
      obtain ⟨σ3, H3, I3, n3⟩ := q3
      obtain ⟨m', hm, w3⟩ := hN σ3 H3 n3
      exact ⟨m', hm, σ3, H3, I3, w3⟩
    | cont =>
      obtain ⟨σ3, H3, I3, n3⟩ := q3
      obtain ⟨m', hm, w3⟩ := hN σ3 H3 n3
      exact ⟨m', hm, σ3, H3, I3, w3⟩
    | brk => exact q3
    | ret v => exact q3
  | false =>
    rw [if_neg Bool.false_ne_true]
    exact wpAny_execs_nil ⟨σ1, H2, I2, q2⟩
end
structure It where
  go : Nat → Hp → Prop
  yld : Nat → Hp → V → Hp → Prop
  stop : Nat → Hp → Prop
def FpOk (X : Cx) (pins : List (Addr × Obj)) (H : Hp) (b : Addr) : Prop :=
  H b = none ∧ b ≠ X.env.locals ∧ b ∉ X.fs ∧ (b ∈ X.ex ∨ X.s_0.heap.objs.size ≤ b) ∧ (∀ x c, X.env.cells.lookup x = some c → c ≠ b) ∧ ∀ p ∈ X.pn ++ pins, p.1 ≠ b
theorem Inv.fpOk {X : Cx} {pins : List (Addr × Obj)} {σ : St} {H H' : Hp} {s : Shared} {b : Addr} (I : Inv X pins σ H s) (hb : s.heap.objs.size ≤ b) (hn : H' b = none) : FpOk X pins H' b := by
  refine ⟨hn, Nat.ne_of_gt (Nat.lt_of_lt_of_le I.lt hb), I.nofs hb, .inr (Nat.le_trans I.sz hb), fun x c e z => ?_, fun p hp z => ?_⟩
  · obtain ⟨v, q⟩ := I.cell x c e
    exact absurd (Nat.lt_of_lt_of_le q.lt (by rw [z]; exact hb)) (Nat.lt_irrefl _)
  · exact absurd (Nat.lt_of_lt_of_le (Heap.lt_size (I.pin p hp).1) (by rw [z]; exact hb)) (Nat.lt_irrefl _)
structure Turn (P : Program) (w : World) (K : PySem.W.Frag) (tg : Expr) (J : It) (fp : List Addr) (it : Addr) (tn : Nat → Heap → Prop) : Prop where
  mem : it ∈ fp
  obj : ∀ i h, tn i h → ∀ b ∈ fp, ∃ o, h.get? b = some o ∧ ∀ v, o.data ≠ .cell v
  keep : ∀ i h h', tn i h → (∀ b ∈ fp, ∀ o, h.get? b = some o → h'.get? b = some o) → tn i h'
  item : ∀ (X : Cx), X.prog = P → X.w = w → X.K = K → X.calm = true → ∀ (i : Nat) (pins : List (Addr × Obj)) (s : Shared) (σ : St) (H : Hp) (E : Value → Shared → Prop), Inv X pins σ H s → (∀ b ∈ fp, FpOk X pins H b) → tn i s.heap → J.go i H →
    wpAny (model P w) X.A (pyNext (.ref it)) (fun r s1 => ∃ u, r = some u ∧
      wpAny (model P w) X.A (letOwnedTupleGo tg (.ref it) u) (fun _ s2 => ∃ x H', Inv X pins σ H' s2 ∧ RelV x u ∧ J.yld i H x H' ∧ tn (i + 1) s2.heap ∧ ∀ b ∈ fp, H' b = none) E s1) E s
  done : ∀ (X : Cx), X.prog = P → X.w = w → X.K = K → X.calm = true → ∀ (i : Nat) (pins : List (Addr × Obj)) (s : Shared) (σ : St) (H : Hp) (E : Value → Shared → Prop), Inv X pins σ H s → (∀ b ∈ fp, FpOk X pins H b) → tn i s.heap → J.stop i H →
    wpAny (model P w) X.A (pyNext (.ref it)) (fun r s1 => r = none ∧ Inv X pins σ H s1) E s
  self : ∀ (A : Around) (i : Nat) (s : Shared) (Q : Value → Shared → Prop) (E : Value → Shared → Prop), tn i s.heap → Q (.ref it) s → wpAny (model P w) A (pyIter (.ref it)) Q E s
abbrev TI := St → Hp → (It → Hp → Prop) → Prop
def PIE (X : Cx) (pins : List (Addr × Obj)) (σ : St) (tg : Expr) (R : It → Hp → Prop) (itv : Value) (s2 : Shared) : Prop :=
  ∃ (it : Addr) (fp : List Addr) (tn : Nat → Heap → Prop) (J : It) (H' : Hp), itv = .ref it ∧ Inv X pins σ H' s2 ∧ Turn X.prog X.w X.K tg J fp it tn ∧ tn 0 s2.heap ∧ (∀ b ∈ fp, FpOk X pins H' b) ∧ R J H'
def PI (X : Cx) (tg iter : Expr) (wi : TI) : Prop :=
  ∀ (pins : List (Addr × Obj)) (s : Shared) (σ : St) (H : Hp) (R : It → Hp → Prop), Inv X pins σ H s → wi σ H R →
    wpAny (model X.prog X.w) X.A (eval iter X.env) (fun v s1 => wpAny (model X.prog X.w) X.A (pyIter v) (PIE X pins σ tg R) X.xe s1) X.xe s
theorem go_of {M : Model} {A : Around} {E : Value → Shared → Prop} {s : Shared} {tg : Expr} {it : Addr} {u : Value} {o : Obj} {n : String} {vs : Array Value} {Q : Unit → Shared → Prop} (ho : s.heap.get? it = some o) (hc : o.cls = .type n) (hd : o.data = .fields vs)
    (hn : ["enumerate", "zip", "dict_itemiterator", "dict_reverseitemiterator", "odict_iterator", "itertools.zip_longest", "itertools.pairwise"].contains n = false) (hQ : Q () s) : wpAny M A (letOwnedTupleGo tg (.ref it) u) Q E s := by
  unfold letOwnedTupleGo
  cases tg <;> first
    | exact wpAny_pure hQ
    | (cases u <;> first
        | exact wpAny_pure hQ
        | (refine wpAny_bind (wpAny_load ho ?_)
           rw [hc, hd]
           show wpAny M A (if (["enumerate", "zip", "dict_itemiterator", "dict_reverseitemiterator", "odict_iterator", "itertools.zip_longest", "itertools.pairwise"].contains n && vs[0]? == some (rawInt _)) = true then _ else _) Q E s
           rw [if_neg (by intro h; rw [hn, Bool.false_and] at h; cases h)]
           exact wpAny_pure hQ))
def Itl (K : PySem.W.Frag) (a : Addr) : It :=
  ⟨fun i H => ∃ xs x, SqL K H a xs ∧ xs[i]? = some x, fun i H x H' => H' = H ∧ ∀ xs, SqL K H a xs → xs[i]? = some x, fun i H => ∃ xs, SqL K H a xs ∧ xs.length ≤ i⟩
def Itr (lo : Int) (n : Nat) : It := ⟨fun i _ => i < n, fun i H x H' => H' = H ∧ x = .int (lo + i), fun i _ => n ≤ i⟩
theorem turn_list {P : Program} {w : World} {K : PySem.W.Frag} {tg : Expr} (a it : Addr) : Turn P w K tg (Itl K a) [it] it (fun i h => h.IsListIter it a i) where
  mem := by simp
  obj := fun i h st b hb => by
    have e : b = it := by simpa using hb
    subst e
    obtain ⟨o, e, c, d⟩ := st
    exact ⟨o, e, fun v z => by rw [d] at z; cases z⟩
  keep := fun i h h' st k => st.at fun o e => k it (by simp) o e
  item := by
    intro X hP hw hK hc i pins s σ H E I hf st hg
    subst hP hw hK
    obtain ⟨xs, x, hq, hx⟩ := hg
    obtain ⟨its, rv, p, hz⟩ := I.list hq
    obtain ⟨u, hu, ru⟩ := rv.get hx
    obtain ⟨f0, f1, f2, f3, f4, f5⟩ := hf it (by simp)
    refine wpAny_pyNext_list_item st p.isList (x := u) (by simpa using hu) fun h' st' sb => ?_
    have I1 : Inv X pins σ H { s with heap := h' } := I.turned (t' := s.toks) (fun b o hb e => (sb.2 b hb).trans e) f0 f1 f3 f4 f5
    obtain ⟨o, e, c, d⟩ := id st'
    exact ⟨u, rfl, go_of (s := { s with heap := h' }) e c d (by decide) ⟨x, H, I1, ru, ⟨rfl, fun ys hy => by rw [I.list_inj hy hq]; exact hx⟩, st', fun b hb => (hf b hb).1⟩⟩
  done := by
    intro X hP hw hK hc i pins s σ H E I hf st hg
    subst hP hw hK
    obtain ⟨xs, hq, hx⟩ := hg
    obtain ⟨its, rv, p, hz⟩ := I.list hq
    obtain ⟨f0, f1, f2, f3, f4, f5⟩ := hf it (by simp)
    have hl := rv.length
    exact wpAny_pyNext_list_end (I.ok.hd hc) st p.isList (by simp; omega) fun h' eb => ⟨rfl, I.turned (t' := s.toks) (fun b o hb e => eb b o hb e) f0 f1 f3 f4 f5⟩
  self := fun _ _ _ _ _ st h => wpAny_pyIter_listiter st h
theorem turn_range {P : Program} {w : World} {K : PySem.W.Frag} {tg : Expr} (it : Addr) (lo : Int) (n : Nat) : Turn P w K tg (Itr lo n) [it] it (fun i h => IsRangeIter h it (lo + (i : Nat) * 1) ((n : Int) - (i : Nat)) 1) where
  mem := by simp
  obj := fun i h st b hb => by
    have e : b = it := by simpa using hb
    subst e
    exact ⟨_, st, fun v z => by
      have z' : Data.fields _ = Data.cell v := z
      cases z'⟩
  keep := fun i h h' st k => k it (by simp) _ st
  item := by
    intro X hP hw hK hc i pins s σ H E I hf st hg
    subst hP hw hK
    obtain ⟨f0, f1, f2, f3, f4, f5⟩ := hf it (by simp)
    have W := Walks.range (prog := X.prog) (w := X.w) (I.ok.hd hc) it lo 1 n
    refine W.item i s _ _ hg st fun v h' tk hv st' kk => ?_
    obtain ⟨t, rfl⟩ := hv
    have I1 : Inv X pins σ H { s with heap := h', toks := tk } := I.turned (fun b o hb e => kk b o (by simpa using hb) e) f0 f1 f3 f4 f5
    refine ⟨_, rfl, go_of (s := { s with heap := h', toks := tk }) (n := "range_iterator") st' rfl rfl (by decide) ⟨.int (lo + i), H, I1, ⟨t, ?_⟩, ⟨rfl, rfl⟩, st', fun b hb => (hf b hb).1⟩⟩
    rw [Int.mul_one]
  done := by
    intro X hP hw hK hc i pins s σ H E I hf st hg
    subst hP hw hK
    obtain ⟨f0, f1, f2, f3, f4, f5⟩ := hf it (by simp)
    exact wpAny_pyNext_range_end (I.ok.hd hc) st (by have : n ≤ i := hg; omega) fun h' eb => ⟨rfl, I.turned (t' := s.toks) (fun b o hb e => eb b o hb e) f0 f1 f3 f4 f5⟩
  self := fun _ _ _ _ _ st h => wpAny_pyIter_rangeiter st h
end L2
namespace L2
open PySem PySem.Spec PyProof.Rows
section
variable {X : Cx} {tg : Expr}
theorem range_it {pins : List (Addr × Obj)} {σ : St} {H : Hp} {s : Shared} {R : It → Hp → Prop} {E : Value → Shared → Prop} {lo hi : Int} {t u v : Tok} {tk : Nat} (I : Inv X pins σ H s) (h1 : -(2 ^ 62) ≤ lo) (h2 : lo < 2 ^ 62) (h3 : -(2 ^ 62) ≤ hi) (h4 : hi < 2 ^ 62)
    (q : R (Itr lo (hi - lo).toNat) H) : wpAny (model X.prog X.w) X.A (pyIter (.ref s.heap.objs.size)) (PIE X pins σ tg R) E { s with heap := s.heap.push { cls := .type "range", data := .fields #[.int lo t, .int hi u, .int 1 v] }, toks := tk } := by
  refine wpAny_pyIter_range (IsRange.new ..) (small_one h1 h2 h3 h4) ?_
  have I1 : Inv X pins σ H { s with heap := s.heap.push { cls := .type "range", data := .fields #[.int lo t, .int hi u, .int 1 v] }, toks := tk } := I.kept fun b o e => Heap.get?_push_of_some _ e
  refine ⟨(s.heap.push { cls := .type "range", data := .fields #[.int lo t, .int hi u, .int 1 v] }).objs.size, [(s.heap.push { cls := .type "range", data := .fields #[.int lo t, .int hi u, .int 1 v] }).objs.size], _, _, H, rfl,
    I1.kept (t' := tk) fun b o e => Heap.get?_push_of_some _ e, turn_range _ lo (hi - lo).toNat, ?_, fun b hb => ?_, q⟩
  · have e1 : lo + ((0 : Nat) : Int) * 1 = lo := by simp
    have e2 : (((hi - lo).toNat : Nat) : Int) - ((0 : Nat) : Int) = Builtin.Range.rangeSize lo hi 1 := by rw [rangeSize_one]; split <;> omega
    show IsRangeIter _ _ (lo + ((0 : Nat) : Int) * 1) ((((hi - lo).toNat : Nat) : Int) - ((0 : Nat) : Int)) 1
    rw [e1, e2]
    exact Heap.get?_push_size _ rfl
  · have e : b = (s.heap.push { cls := .type "range", data := .fields #[.int lo t, .int hi u, .int 1 v] }).objs.size := by simpa using hb
    subst e
    exact I1.fpOk (Nat.le_refl _) (I1.hok.fresh (Nat.le_refl _))
def iRng1 (ta : TA) : TI := fun σ H R => ta σ H fun vs H1 => ∃ j : Int, vs = [.int j] ∧ -(2 ^ 62) ≤ j ∧ j < 2 ^ 62 ∧ R (Itr 0 j.toNat) H1
theorem pi_range1 {a : Expr} {ta : TA} {p pos : Pos} (hg : Gl X "range") (hm : X.mg "range" = none) (ha : PA X [a] ta) (hs : starEach [a] X.env = [(false, eval a X.env)] := by rfl) : PI X tg (.Call (.Name "range" p) [a] [] pos) (iRng1 ta) := by
  intro pins s σ H R I h
  refine Call_ (ld_blt I hg hm boot_range (PyProof.Rows.callWith_type1 (thn (ha pos pins s σ H _ I h) fun us s1 ⟨vs, H1, I1, r1, q1⟩ => ?_) hs rfl))
  obtain ⟨j, e, q1, q2, q⟩ := q1
  subst e
  cases r1 with
  | cons r rr =>
    cases rr
    obtain ⟨t, rfl⟩ := r
    exact call_range_1 (range_it I1 (by omega) (by omega) q1 q2 (by simpa using q))
def tFor (wi : TI) (g : TG) (tb : TS) : TS := fun D σ H => wi σ H fun J H1 => ∃ W : Nat → Nat → St → Hp → Prop, (∃ m, W 0 m σ H1) ∧ ∀ i m σ H, W i m σ H →
  (J.stop i H ∧ D.nx σ H) ∨ (J.go i H ∧ ∃ N : St → Hp → Prop, (∀ σ' H', N σ' H' → ∃ m', m' < m ∧ W (i + 1) m' σ' H') ∧ ∀ x H', J.yld i H x H' → g x σ H' fun σ2 H2 => tb { D with nx := N, ct := N, bk := D.nx } σ2 H2)
def pinsAt (fp : List Addr) (h : Heap) : List (Addr × Obj) := fp.filterMap fun b => (h.get? b).map fun o => (b, o)
theorem mem_pinsAt {fp : List Addr} {h : Heap} {b : Addr} {o : Obj} (hb : b ∈ fp) (e : h.get? b = some o) : (b, o) ∈ pinsAt fp h := List.mem_filterMap.mpr ⟨b, hb, by rw [e]; rfl⟩
theorem of_pinsAt {fp : List Addr} {h : Heap} {p : Addr × Obj} (hp : p ∈ pinsAt fp h) : p.1 ∈ fp ∧ h.get? p.1 = some p.2 := by
  obtain ⟨b, hb, e⟩ := List.mem_filterMap.mp hp
  cases q : h.get? b with
  | none => rw [q] at e; cases e
  | some o =>
    rw [q] at e
    have e' : (b, o) = p := Option.some.inj e
    subst e'
    exact ⟨hb, q⟩
theorem Inv.pinned {pins : List (Addr × Obj)} {σ : St} {H : Hp} {s : Shared} {fp : List Addr} (I : Inv X pins σ H s) (hf : ∀ b ∈ fp, FpOk X pins H b) (ho : ∀ b ∈ fp, ∃ o, s.heap.get? b = some o ∧ ∀ v, o.data ≠ .cell v) : Inv X (pins ++ pinsAt fp s.heap) σ H s :=
  I.pins_of fun p hp => (List.mem_append.mp hp).elim (fun z => I.pin p (List.mem_append_right _ z)) fun z => by
    obtain ⟨hb, e⟩ := of_pinsAt z
    obtain ⟨f0, f1, f2, _⟩ := hf p.1 hb
    obtain ⟨o, e', d⟩ := ho p.1 hb
    rw [e] at e'; cases e'
    exact ⟨e, f0, f1, f2, d⟩
theorem Inv.unpinned {pins pl : List (Addr × Obj)} {σ : St} {H : Hp} {s : Shared} (I : Inv X (pins ++ pl) σ H s) : Inv X pins σ H s := I.pins_of fun p hp => I.pin p (List.mem_append_right _ (List.mem_append_left _ hp))
theorem ps_for {iter : Expr} {body : List Stmt} {wi : TI} {g : TG} {tb : TS} {pos : Pos} (hp : PassesOwn (model X.prog X.w) X.A X.env X.xe) (hc : X.calm = true) (hi : PI X tg iter wi) (hg : PG X tg g) (hb : PSs X body tb)
    (hs : ∀ x, foldedSetIterable iter X.env x = pure x := by intro _; rfl) : PS X (.For tg iter body [] pos) (tFor wi g tb) := by
  intro pins s σ H D I h
  refine wpAny_For (thn (hi pins s σ H _ I h) fun v s1 h1 => thn h1 fun itv s2 h2 => ?_) hs
  obtain ⟨it, fp, tn, J, H2, e, I2, T, st2, f2, W, ⟨m0, w0⟩, turn⟩ := h2
  subst e
  -- what stays true of the iterator's objects through the loop
  have stat : ∀ {H' : Hp}, (∀ b ∈ fp, H' b = none) → ∀ b ∈ fp, FpOk X pins H' b := fun hn b hb => ⟨hn b hb, (f2 b hb).2⟩
  refine codeAny_forLoop_any (fun n s' => ∃ i σ' H', Inv X pins σ' H' s' ∧ tn i s'.heap ∧ (∀ b ∈ fp, H' b = none) ∧ W i n σ' H') ?_ m0 ⟨0, σ, H2, I2, st2, fun b hb => (f2 b hb).1, w0⟩
  rintro n s3 ⟨i, σ3, H3, I3, st3, fr3, w3⟩
  rcases turn i n σ3 H3 w3 with ⟨stop, qn⟩ | ⟨go, N, hN, step⟩
  · refine wpAny_passesOwn hp (thn (T.done X rfl rfl rfl hc i pins s3 σ3 H3 X.xe I3 (stat fr3) st3 stop) fun r s4 ⟨hr, I4⟩ => ?_)
    subst hr
    exact wpAny_execs_nil ⟨σ3, H3, I4, qn⟩
  · refine wpAny_passesOwn hp (thn (T.item X rfl rfl rfl hc i pins s3 σ3 H3 X.xe I3 (stat fr3) st3 go) fun r s4 ⟨u, hr, h4⟩ => ?_)
    subst hr
    refine wpAny_passesOwn hp (thn h4 fun _ s5 ⟨x, H5, I5, r5, y5, st5, fr5⟩ => ?_)
    have I5' := I5.pinned (stat fr5) (T.obj _ _ st5)
    refine wpAny_passesOwn hp (thn (hg _ s5 σ3 H5 x u _ I5' r5 (step x H5 y5)) fun _ s6 ⟨σ6, H6, I6, q6⟩ => ?_)
    refine wpAny_passesOwn hp (thn (hb _ s6 σ6 H6 _ I6 q6) fun f s7 q7 => ?_)
    have again : ∀ {σ7 : St} {H7 : Hp}, Inv X (pins ++ pinsAt fp s5.heap) σ7 H7 s7 → N σ7 H7 → ∃ m, m < n ∧ ∃ i σ' H', Inv X pins σ' H' s7 ∧ tn i s7.heap ∧ (∀ b ∈ fp, H' b = none) ∧ W i m σ' H' := fun {σ7 H7} I7 n7 => by
      obtain ⟨m', hm, w7⟩ := hN σ7 H7 n7
      refine ⟨m', hm, i + 1, σ7, H7, I7.unpinned, T.keep _ _ _ st5 fun b hb o e => (I7.pin (b, o) (List.mem_append_right _ (List.mem_append_right _ (mem_pinsAt hb e)))).1, fun b hb => ?_, w7⟩
      obtain ⟨o, e, d⟩ := T.obj _ _ st5 b hb
      exact (I7.pin (b, o) (List.mem_append_right _ (List.mem_append_right _ (mem_pinsAt hb e)))).2.1
    cases f with
    | next => obtain ⟨σ7, H7, I7, n7⟩ := q7; exact again I7 n7
    | cont => obtain ⟨σ7, H7, I7, n7⟩ := q7; exact again I7 n7
    | brk => obtain ⟨σ7, H7, I7, q7⟩ := q7; exact ⟨σ7, H7, I7.unpinned, q7⟩
    | ret v => obtain ⟨x7, σ7, H7, I7, r7, q7⟩ := q7; exact ⟨x7, σ7, H7, I7.unpinned, r7, q7⟩
end
theorem for_range {lo : Int} {n : Nat} {g : TG} {tb : TS} {D : Ends} {σ : St} {H : Hp} (Pv : Nat → St → Hp → Prop) (h0 : Pv 0 σ H)
    (hs : ∀ i σ H, i < n → Pv i σ H → g (.int (lo + i)) σ H fun σ2 H2 => tb { D with nx := Pv (i + 1), ct := Pv (i + 1), bk := D.nx } σ2 H2) (hd : ∀ σ H, Pv n σ H → D.nx σ H) :
    ∃ W : Nat → Nat → St → Hp → Prop, (∃ m, W 0 m σ H) ∧ ∀ i m σ H, W i m σ H →
      ((Itr lo n).stop i H ∧ D.nx σ H) ∨ ((Itr lo n).go i H ∧ ∃ N : St → Hp → Prop, (∀ σ' H', N σ' H' → ∃ m', m' < m ∧ W (i + 1) m' σ' H') ∧ ∀ x H', (Itr lo n).yld i H x H' → g x σ H' fun σ2 H2 => tb { D with nx := N, ct := N, bk := D.nx } σ2 H2) := by
  refine ⟨fun i m σ H => m = n - i ∧ i ≤ n ∧ Pv i σ H, ⟨n, by simp, Nat.zero_le _, h0⟩, ?_⟩
  rintro i m σ H ⟨rfl, hi, p⟩
  by_cases hlt : i < n
  · refine .inr ⟨hlt, Pv (i + 1), fun σ' H' p' => ⟨n - (i + 1), by omega, rfl, hlt, p'⟩, fun x H' y => ?_⟩
    obtain ⟨e, y⟩ := y
    subst e y
    exact hs i σ _ hlt p
  · have e : i = n := by omega
    subst e
    exact .inl ⟨Nat.le_refl _, hd σ H p⟩
theorem while_by {c : TT} {tb : TS} {D : Ends} {σ : St} {H : Hp} (Pv : St → Hp → Prop) (μ : St → Hp → Nat) (h0 : Pv σ H)
    (hs : ∀ σ H, Pv σ H → c σ H fun b H1 => if b = true then tb { D with nx := fun σ' H' => Pv σ' H' ∧ μ σ' H' < μ σ H, ct := fun σ' H' => Pv σ' H' ∧ μ σ' H' < μ σ H, bk := D.nx } σ H1 else D.nx σ H1)
    (mono : ∀ σ H Q Q', (∀ b H1, Q b H1 → Q' b H1) → c σ H Q → c σ H Q') : tWhile c tb D σ H := by
  refine ⟨fun m σ H => m = μ σ H ∧ Pv σ H, ⟨_, rfl, h0⟩, ?_⟩
  rintro m σ H ⟨rfl, p⟩
  refine mono σ H _ _ (fun b H1 q => ?_) (hs σ H p)
  cases b with
  | true => exact ⟨_, fun σ' H' ⟨p', l⟩ => ⟨_, l, rfl, p'⟩, q⟩
  | false => exact q
end L2
namespace L2
open PySem PySem.Spec PyProof.Rows
abbrev R2 := V → V → Hp → VK → Prop
def OpR (X : Cx) (f : Value → Value → Sem Value) (r : R2) : Prop :=
  ∀ (pins : List (Addr × Obj)) (s : Shared) (σ : St) (H : Hp) (x y : V) (v u : Value) (Q : VK), Inv X pins σ H s → RelV x v → RelV y u → r x y H Q →
    wpAny (model X.prog X.w) X.A (f v u) (EP X pins σ Q) X.xe s
def UnR (X : Cx) (f : Value → Sem Value) (r : V → Hp → VK → Prop) : Prop :=
  ∀ (pins : List (Addr × Obj)) (s : Shared) (σ : St) (H : Hp) (x : V) (v : Value) (Q : VK), Inv X pins σ H s → RelV x v → r x H Q →
    wpAny (model X.prog X.w) X.A (f v) (EP X pins σ Q) X.xe s
def CallR (X : Cx) (f : Value) (r : List V → Hp → VK → Prop) : Prop :=
  ∀ (pins : List (Addr × Obj)) (s : Shared) (σ : St) (H : Hp) (xs : List V) (us : List Value) (Q : VK), Inv X pins σ H s → Vals xs us → r xs H Q →
    wpAny (model X.prog X.w) X.A (call f us) (EP X pins σ Q) X.xe s
def tOp (r : R2) (ta tb : TE) : TE := fun σ H Q => ta σ H fun x H1 => tb σ H1 fun y H2 => r x y H2 Q
def tUn (r : V → Hp → VK → Prop) (ta : TE) : TE := fun σ H Q => ta σ H fun x H1 => r x H1 Q
def rI (C : Int → Int → Prop) (g : Int → Int → V) : R2 := fun x y H Q => ∃ i j, x = .int i ∧ y = .int j ∧ C i j ∧ Q (g i j) H
def rI0 (g : Int → Int → V) : R2 := fun x y H Q => ∃ i j, x = .int i ∧ y = .int j ∧ Q (g i j) H
def rU (g : Int → V) : V → Hp → VK → Prop := fun x H Q => ∃ i, x = .int i ∧ Q (g i) H
section
variable {X : Cx} {a b c : Expr} {ta tb tc : TE} {pos : Pos}
theorem binT (ha : PE X a ta) (hb : PE X b tb) {pins : List (Addr × Obj)} {s : Shared} {σ : St} {H : Hp} {R : V → V → Hp → Prop} (I : Inv X pins σ H s)
    (h : ta σ H fun x H1 => tb σ H1 fun y H2 => R x y H2) {Q : Value → Shared → Prop} {f : Value → Value → Sem Value}
    (hf : ∀ v u s2 x y H2, Inv X pins σ H2 s2 → RelV x v → RelV y u → R x y H2 → wpAny (model X.prog X.w) X.A (f v u) Q X.xe s2) :
    wpAny (model X.prog X.w) X.A (eval a X.env) (fun v s₁ => wpAny (model X.prog X.w) X.A (eval b X.env) (fun u s₂ => wpAny (model X.prog X.w) X.A (f v u) Q X.xe s₂) X.xe s₁) X.xe s := by
  refine thn (ha pins s σ H _ I h) fun v s1 ⟨x, H1, I1, r1, q1⟩ => ?_
  refine thn (hb pins s1 σ H1 _ I1 q1) fun u s2 ⟨y, H2, I2, r2, q2⟩ => ?_
  exact hf v u s2 x y H2 I2 r1 r2 q2
theorem pe_op {op : Operator} {r : R2} (ho : OpR X (binaryOp op) r) (ha : PE X a ta) (hb : PE X b tb) : PE X (.BinOp a op b pos) (tOp r ta tb) := by
  intro pins s σ H Q I h
  exact wpAny_BinOp (binT ha hb I h fun v u s2 x y H2 I2 rx ry q => ho pins s2 σ H2 x y v u Q I2 rx ry q)
theorem pe_un {op : UnaryOp} {r : V → Hp → VK → Prop} (ho : UnR X (unaryOp op) r) (ha : PE X a ta) : PE X (.UnaryOp op a pos) (tUn r ta) := by
  intro pins s σ H Q I h
  exact UnaryOp_ (thn (ha pins s σ H _ I h) fun v s1 ⟨x, H1, I1, r1, q1⟩ => ho pins s1 σ H1 x v Q I1 r1 q1)
theorem opI {f : Value → Value → Sem Value} {C : Int → Int → Prop} {g : Int → Int → Int}
    (rule : ∀ (i j : Int) (t u : Tok) (s : Shared) (Q : Value → Shared → Prop) (E : Value → Shared → Prop), C i j → Q (.int (g i j) s.toks) { s with toks := s.toks + 1 } → wpAny (model X.prog X.w) X.A (f (.int i t) (.int j u)) Q E s) :
    OpR X f (rI C fun i j => .int (g i j)) := by
  intro pins s σ H x y v u Q I rx ry h
  obtain ⟨i, j, rfl, rfl, hc, q⟩ := h
  obtain ⟨t, rfl⟩ := rx
  obtain ⟨t', rfl⟩ := ry
  exact rule i j t t' s _ _ hc ⟨.int (g i j), H, I.tok _, ⟨_, rfl⟩, q⟩
theorem opI0 {f : Value → Value → Sem Value} {g : Int → Int → Int}
    (rule : ∀ (i j : Int) (t u : Tok) (s : Shared) (Q : Value → Shared → Prop) (E : Value → Shared → Prop), Q (.int (g i j) s.toks) { s with toks := s.toks + 1 } → wpAny (model X.prog X.w) X.A (f (.int i t) (.int j u)) Q E s) :
    OpR X f (rI0 fun i j => .int (g i j)) := by
  intro pins s σ H x y v u Q I rx ry h
  obtain ⟨i, j, rfl, rfl, q⟩ := h
  obtain ⟨t, rfl⟩ := rx
  obtain ⟨t', rfl⟩ := ry
  exact rule i j t t' s _ _ ⟨.int (g i j), H, I.tok _, ⟨_, rfl⟩, q⟩
theorem opB0 {f : Value → Value → Sem Value} {g : Int → Int → Bool}
    (rule : ∀ (i j : Int) (t u : Tok) (s : Shared) (Q : Value → Shared → Prop) (E : Value → Shared → Prop), Q (.bool (g i j)) s → wpAny (model X.prog X.w) X.A (f (.int i t) (.int j u)) Q E s) :
    OpR X f (rI0 fun i j => .bl (g i j)) := by
  intro pins s σ H x y v u Q I rx ry h
  obtain ⟨i, j, rfl, rfl, q⟩ := h
  obtain ⟨t, rfl⟩ := rx
  obtain ⟨t', rfl⟩ := ry
  exact rule i j t t' s _ _ ⟨.bl (g i j), H, I, rfl, q⟩
def CDiv (i j : Int) : Prop := 0 < j ∧ j < 1073741824
def CPow (i j : Int) : Prop := 0 ≤ j ∧ j ≤ 1000000 ∧ i.natAbs < 2 ^ 64
def CMul (i j : Int) : Prop := (-(2 ^ 64) < i ∧ i < 2 ^ 64) ∨ (-(2 ^ 64) < j ∧ j < 2 ^ 64)
theorem CMul.ok {i j : Int} (h : CMul i j) : IntMulOk i j := by
  rcases h with ⟨h1, h2⟩ | ⟨h1, h2⟩
  · exact .of_left (intBits_le_64 h1 h2)
  · exact .of_right (intBits_le_64 h1 h2)
theorem two_pow_nn (k : Nat) : (0 : Int) ≤ 2 ^ k := by
  rw [two_pow_cast]
  exact Int.natCast_nonneg _
theorem op_add : OpR X (binaryOp .Add) (rI0 fun i j => .int (i + j)) := opI0 fun _ _ _ _ _ _ _ q => add_int q
theorem op_sub : OpR X (binaryOp .Sub) (rI0 fun i j => .int (i - j)) := opI0 fun _ _ _ _ _ _ _ q => sub_int q
theorem op_mul : OpR X (binaryOp .Mult) (rI CMul fun i j => .int (i * j)) := opI fun _ _ _ _ _ _ _ hc q => mul_int q hc.ok
theorem op_fdiv : OpR X (binaryOp .FloorDiv) (rI CDiv fun i j => .int (i / j)) := opI fun i j _ _ _ _ _ hc q => by
  have h1 : (0 : Int) < j := hc.1
  have h2 : j < 1073741824 := hc.2
  exact floordiv_int (by omega) (by rw [Int.fdiv_eq_ediv_of_nonneg i (by omega)]; exact q) (.inl (PyProof.noPylong_small (by omega)))
theorem op_shl : OpR X (binaryOp .LShift) (rI CPow fun i j => .int (i * 2 ^ j.toNat)) := opI fun _ _ _ _ _ _ _ hc q => lshift_int_small hc.1 hc.2.1 hc.2.2 q
theorem op_shr : OpR X (binaryOp .RShift) (rI (fun _ j => 0 ≤ j) fun i j => .int (i / 2 ^ j.toNat)) := opI fun i j _ _ _ _ _ hc q =>
  rshift_int hc (by rw [Int.fdiv_eq_ediv_of_nonneg i (two_pow_nn _)]; exact q)
theorem op_and : OpR X (binaryOp .BitAnd) (rI0 fun i j => .int (Builtin.bitAnd i j)) := opI0 fun _ _ _ _ _ _ _ q => and_int q
theorem op_or : OpR X (binaryOp .BitOr) (rI0 fun i j => .int (Builtin.bitOr i j)) := opI0 fun _ _ _ _ _ _ _ q => or_int q
theorem unI {f : Value → Sem Value} {g : Int → Int}
    (rule : ∀ (i : Int) (t : Tok) (s : Shared) (Q : Value → Shared → Prop) (E : Value → Shared → Prop), Q (.int (g i) s.toks) { s with toks := s.toks + 1 } → wpAny (model X.prog X.w) X.A (f (.int i t)) Q E s) :
    UnR X f (rU fun i => .int (g i)) := by
  intro pins s σ H x v Q I rx h
  obtain ⟨i, rfl, q⟩ := h
  obtain ⟨t, rfl⟩ := rx
  exact rule i t s _ _ ⟨.int (g i), H, I.tok _, ⟨_, rfl⟩, q⟩
theorem un_inv : UnR X (unaryOp .Invert) (rU fun i => .int (Builtin.bitNot i)) := unI fun _ _ _ _ _ q => invert_int q
end
def scal : V → V → Bool
  | .non, .non => true | .non, .int _ => true | .int _, .non => true | .non, .bl _ => true | .bl _, .non => true | .non, .str _ => true | .str _, .non => true
  | .int _, .int _ => true | .bl _, .bl _ => true | .str _, .str _ => true | .byt _, .byt _ => true
  | .int _, .str _ => true | .str _, .int _ => true | .bl _, .str _ => true | .str _, .bl _ => true
  | _, _ => false
def rEq : R2 := fun x y H Q => scal x y = true ∧ Q (.bl (decide (x = y))) H
def rNe : R2 := fun x y H Q => scal x y = true ∧ Q (.bl (!decide (x = y))) H
theorem dec_int {i j : Int} : decide (V.int i = V.int j) = (i == j) := by
  rw [Bool.eq_iff_iff]
  simp
theorem dec_bl {i j : Bool} : decide (V.bl i = V.bl j) = (i == j) := by
  rw [Bool.eq_iff_iff]
  simp
theorem dec_str {i j : Str} : decide (V.str i = V.str j) = (i == j) := by
  rw [Bool.eq_iff_iff]
  simp
theorem dec_byt {i j : Array UInt8} : decide (V.byt i = V.byt j) = (i.toList == j.toList) := by
  rw [Bool.eq_iff_iff]
  cases i
  cases j
  simp
section
variable {X : Cx} {a b c : Expr} {ta tb tc : TE} {pos : Pos}
theorem fin_bl {pins : List (Addr × Obj)} {σ : St} {H : Hp} {s : Shared} {Q : VK} {k k' : Bool} (I : Inv X pins σ H s) (q : Q (.bl k) H) (e : k = k') : EP X pins σ Q (.bool k') s := by
  subst e
  exact ⟨.bl k, H, I, rfl, q⟩
theorem op_eq : OpR X (compareOp .Eq) rEq := by
  intro pins s σ H x y v u Q I rx ry h
  obtain ⟨hs, q⟩ := h
  cases x with
  | non =>
    cases rx
    cases y with
    | non => cases ry; exact PySem.EqNone.eq_none_none (fin_bl I q (by simp))
    | bl j => cases ry; exact PySem.EqNone.eq_none_bool (fin_bl I q (by simp))
    | int j => obtain ⟨t', rfl⟩ := ry; exact PySem.EqNone.eq_none_int (fin_bl I q (by simp))
    | str j => obtain ⟨t', rfl⟩ := ry; exact PySem.EqNone.eq_none_str (fin_bl I q (by simp))
    | _ => exact absurd (show false = true from hs) Bool.false_ne_true
  | bl i =>
    cases rx
    cases y with
    | non => cases ry; exact PySem.EqNone.eq_bool_none (fin_bl I q (by simp))
    | bl j => cases ry; exact eq_bool (fin_bl I q dec_bl)
    | str j => obtain ⟨t', rfl⟩ := ry; exact PySem.EqMixed.eq_bool_str (fin_bl I q (by simp))
    | _ => exact absurd (show false = true from hs) Bool.false_ne_true
  | int i =>
    obtain ⟨t, rfl⟩ := rx
    cases y with
    | non => cases ry; exact PySem.EqNone.eq_int_none (fin_bl I q (by simp))
    | int j => obtain ⟨t', rfl⟩ := ry; exact eq_int (fin_bl I q dec_int)
    | str j => obtain ⟨t', rfl⟩ := ry; exact PySem.EqMixed.eq_int_str (fin_bl I q (by simp))
    | _ => exact absurd (show false = true from hs) Bool.false_ne_true
  | str i =>
    obtain ⟨t, rfl⟩ := rx
    cases y with
    | non => cases ry; exact PySem.EqNone.eq_str_none (fin_bl I q (by simp))
    | bl j => cases ry; exact PySem.EqMixed.eq_str_bool (fin_bl I q (by simp))
    | int j => obtain ⟨t', rfl⟩ := ry; exact PySem.EqMixed.eq_str_int (fin_bl I q (by simp))
    | str j => obtain ⟨t', rfl⟩ := ry; exact eq_str (fin_bl I q dec_str)
    | _ => exact absurd (show false = true from hs) Bool.false_ne_true
  | byt i =>
    obtain ⟨t, rfl⟩ := rx
    cases y with
    | byt j => obtain ⟨t', rfl⟩ := ry; exact PySem.W.eq_bytes (fin_bl I q dec_byt)
    | _ => exact absurd (show false = true from hs) Bool.false_ne_true
  | _ => cases y <;> exact absurd (show false = true from hs) Bool.false_ne_true
theorem op_ne : OpR X (compareOp .NotEq) rNe := by
  intro pins s σ H x y v u Q I rx ry h
  obtain ⟨hs, q⟩ := h
  cases x with
  | non =>
    cases rx
    cases y with
    | non => cases ry; exact PySem.EqNone.ne_none_none (fin_bl I q (by simp))
    | bl j => cases ry; exact PySem.EqNone.ne_none_bool (fin_bl I q (by simp))
    | int j => obtain ⟨t', rfl⟩ := ry; exact PySem.EqNone.ne_none_int (fin_bl I q (by simp))
    | str j => obtain ⟨t', rfl⟩ := ry; exact PySem.EqNone.ne_none_str (fin_bl I q (by simp))
    | _ => exact absurd (show false = true from hs) Bool.false_ne_true
  | bl i =>
    cases rx
    cases y with
    | non => cases ry; exact PySem.EqNone.ne_bool_none (fin_bl I q (by simp))
    | bl j => cases ry; exact ne_bool (fin_bl I q (congrArg not dec_bl))
    | str j => obtain ⟨t', rfl⟩ := ry; exact PySem.EqMixed.ne_bool_str (fin_bl I q (by simp))
    | _ => exact absurd (show false = true from hs) Bool.false_ne_true
  | int i =>
    obtain ⟨t, rfl⟩ := rx
    cases y with
    | non => cases ry; exact PySem.EqNone.ne_int_none (fin_bl I q (by simp))
    | int j => obtain ⟨t', rfl⟩ := ry; exact ne_int (fin_bl I q (congrArg not dec_int))
    | str j => obtain ⟨t', rfl⟩ := ry; exact PySem.EqMixed.ne_int_str (fin_bl I q (by simp))
    | _ => exact absurd (show false = true from hs) Bool.false_ne_true
  | str i =>
    obtain ⟨t, rfl⟩ := rx
    cases y with
    | non => cases ry; exact PySem.EqNone.ne_str_none (fin_bl I q (by simp))
    | bl j => cases ry; exact PySem.EqMixed.ne_str_bool (fin_bl I q (by simp))
    | int j => obtain ⟨t', rfl⟩ := ry; exact PySem.EqMixed.ne_str_int (fin_bl I q (by simp))
    | str j => obtain ⟨t', rfl⟩ := ry; exact ne_str (fin_bl I q (congrArg not dec_str))
    | _ => exact absurd (show false = true from hs) Bool.false_ne_true
  | byt i =>
    obtain ⟨t, rfl⟩ := rx
    cases y with
    | byt j => obtain ⟨t', rfl⟩ := ry; exact PySem.W.ne_bytes (fin_bl I q (congrArg not dec_byt))
    | _ => exact absurd (show false = true from hs) Bool.false_ne_true
  | _ => cases y <;> exact absurd (show false = true from hs) Bool.false_ne_true
theorem op_lt : OpR X (compareOp .Lt) (rI0 fun i j => .bl (decide (i < j))) := opB0 fun _ _ _ _ _ _ _ q => lt_int q
theorem op_le : OpR X (compareOp .LtE) (rI0 fun i j => .bl (decide (i ≤ j))) := opB0 fun _ _ _ _ _ _ _ q => le_int q
theorem op_gt : OpR X (compareOp .Gt) (rI0 fun i j => .bl (decide (j < i))) := opB0 fun _ _ _ _ _ _ _ q => gt_int q
theorem op_ge : OpR X (compareOp .GtE) (rI0 fun i j => .bl (decide (j ≤ i))) := opB0 fun _ _ _ _ _ _ _ q => ge_int q
theorem nomark (b : Expr) {op : CmpOp} (h : op ≠ .In := by decide) (h2 : op ≠ .NotIn := by decide) : behindInMarks op b = false := by
  have e1 : (op == CmpOp.In) = false := by cases op <;> first | rfl | exact absurd rfl h
  have e2 : (op == CmpOp.NotIn) = false := by cases op <;> first | rfl | exact absurd rfl h2
  cases b <;> simp [behindInMarks, e1, e2]
theorem pe_cmpR {op : CmpOp} {r : R2} (ho : OpR X (compareOp op) r) (ha : PE X a ta) (hb : PE X b tb) (hm : behindInMarks op b = false) : PE X (.Compare a [op] [b] pos) (tOp r ta tb) := by
  intro pins s σ H Q I h
  exact wpAny_Compare1 (binT ha hb I h fun v u s2 x y H2 I2 rx ry q => ho pins s2 σ H2 x y v u Q I2 rx ry q) hm
def tTest (t : TE) : TT := fun σ H Q => t σ H fun x H' => ∃ k, x = .bl k ∧ Q k H'
theorem pt_cmpR {op : CmpOp} {r : R2} (ho : OpR X (compareOp op) r) (ha : PE X a ta) (hb : PE X b tb) (hm : behindInMarks op b = false) : PT X (.Compare a [op] [b] pos) (tTest (tOp r ta tb)) := by
  intro pins s σ H Q I h
  refine wpAny_isTrue_Compare1 (thn (ha pins s σ H _ I h) fun v s1 ⟨x, H1, I1, r1, q1⟩ => thn (hb pins s1 σ H1 _ I1 q1) fun u s2 ⟨y, H2, I2, r2, q2⟩ =>
    thn (ho pins s2 σ H2 x y v u _ I2 r1 r2 q2) fun c s3 ⟨z, H3, I3, r3, k, e, q3⟩ => ?_) hm
  subst e
  cases r3
  exact wpAny_truthy_bool ⟨H3, I3, q3⟩
theorem line63 : (sizeLine : Nat) < 2 ^ 63 := by rw [sizeLine_eq]; decide
theorem vals1 {x : V} {us : List Value} (r : Vals [x] us) : ∃ u, us = [u] ∧ RelV x u := by
  cases r with
  | cons r1 r2 => cases r2; exact ⟨_, rfl, r1⟩
end
end L2
namespace L2
open PySem PySem.Spec PyProof.Rows
structure ObjM (h : Heap) (x dx C : Addr) (mA : Str → Option Value) : Prop where
  obj : h.get? x = some (PySem.W.instObj C dx)
  ns : h.Ns1 dx mA
  ne : dx ≠ x
theorem lookIn_ns {h : Heap} {dx : Addr} {mA : Str → Option Value} (n : h.Ns1 dx mA) : ∃ od, h.get? dx = some od ∧ ∀ name, PySem.W.lookIn name od = some (mA name) := by
  obtain ⟨o, es, ep, ho, hd, hk, _, hm⟩ := n
  refine ⟨o, ho, fun name => ?_⟩
  have e := hm name
  unfold nsFind findBy at e
  rw [← Array.find?_toList] at e
  unfold PySem.W.lookIn
  rw [hd]
  dsimp only
  split
  · rename_i y q
    rw [q] at e
    exact congrArg some e
  · rename_i q
    rw [q] at e
    have a : es.toList.any (·.refKey) = false := by
      rw [List.any_eq_false]
      intro y hy
      obtain ⟨z, t, hkey⟩ := hk y (Array.mem_toList_iff.mp hy)
      simp [DictEntry.refKey, hkey]
    have a' : ¬ es.toList.any (·.refKey) = true := by rw [a]; exact Bool.false_ne_true
    rw [if_neg a']
    exact congrArg some e
theorem ObjM.look {h : Heap} {x dx C : Addr} {mA : Str → Option Value} (I : ObjM h x dx C mA) : ∃ od, PySem.W.InstAt h x (PySem.W.instObj C dx) C (some od) ∧ ∀ name, PySem.W.lookIn name od = some (mA name) :=
  let ⟨od, ho, hl⟩ := lookIn_ns I.ns
  ⟨od, ⟨I.obj, rfl, rfl, ho⟩, hl⟩
section
variable {prog : Program} {w : World} {A : Around} {E : Value → Shared → Prop} {s : Shared} {K : PySem.W.Frag} {x dx C f : Addr} {mA : Str → Option Value} {name : Str} {v : Value}
theorem get_map {expr : Bool} {Q : Value → Shared → Prop} (X : K.In s.heap) (I : ObjM s.heap x dx C mA) (hg : PySem.W.plainGet K C name = true) (hh : PySem.W.hasDictIn K C = true)
    (ha : PySem.W.findIn K (.ref C) name = some none) (hv : mA name = some v) (hv' : PySem.W.handedIn v = true) (h : Q v { s with toks := s.toks + 1 }) :
    wpAny (model prog w) A (getAttr (.ref x) name expr) Q E s := by
  obtain ⟨od, J, hl⟩ := I.look
  exact PySem.W.get_value X J (PySem.W.plainGet_of hg).1 (PySem.W.findObj_own hh ha rfl (by rw [hl, hv])) hv' h
theorem get_meth {pl : Sem Bool} {Q : Value × List Value → Shared → Prop} (X : K.In s.heap) (I : ObjM s.heap x dx C mA) (hg : PySem.W.plainGet K C name = true)
    (hf : PySem.W.findIn K (.ref C) name = some (some (.ref f))) (ht : PySem.W.isFn K (.ref f) = true) (hv : mA name = none) (h : Q (.ref f, [.ref x]) s) :
    wpAny (model prog w) A (getMethod (.ref x) name pl) Q E s := by
  obtain ⟨od, J, hl⟩ := I.look
  exact PySem.W.method_fn X J (PySem.W.plainGet_of hg).1 (PySem.W.plainGet_of hg).2 hf (beq_iff_eq.mp ht) (by show (PySem.W.lookIn name od).map (·.isSome) = some false; rw [hl, hv]; rfl) h
theorem set_map {ns : List Str} {Q : Unit → Shared → Prop} (X : K.In s.heap) (I : ObjM s.heap x dx C mA)
    (hs : PySem.W.findIn K (.ref C) "__setattr__" = some (some (.builtin "object.__setattr__"))) (hp : PySem.W.plainOver K C = true) (ht : PySem.W.takerIn K C name = some none) (hh : PySem.W.hasDictIn K C = true)
    (hw : PySem.Within mA ns) (hsz : ns.length ≤ sizeLine)
    (h : ∀ h', ObjM h' x dx C (fun y => if y = name then some v else mA y) → Heap.SameBut dx s.heap h' → Q () { s with heap := h', toks := s.toks + 2 }) :
    wpAny (model prog w) A (setAttr (.ref x) name v) Q E s := by
  obtain ⟨od, J, hl⟩ := I.look
  refine PySem.W.set_plain X J hs (PySem.W.osa_open (s := { s with toks := s.toks + 1 }) (r := none) X J hp ht fun b => ?_)
  obtain ⟨cd, hc, hd'⟩ := PySem.W.any_some hh
  have hx : s.heap.get? x = some ⟨.ref C, some dx, .plain, #[]⟩ := I.obj
  refine wpAny_bind (wpAny_pure (wpAny_bind (wpAny_bind (wpAny_loadPart hx (wpAny_bind (PySem.W.Looks.here (s := { s with toks := s.toks + 1 }) (PySem.W.looks_clsIn X hc) ?_))))))
  rw [hd']
  refine wpAny_pure (a := some dx) (wpAny_bind (wpAny_pure (wpAny_bind ?_)))
  refine wpAny_nsSet1 (s := { s with toks := s.toks + 1 }) I.ns fun h' hn2 hs2 => ?_
  obtain ⟨oD, esD, epD, hoD, hdD, hcD⟩ := hn2.count (PySem.Within.cons name v hw)
  refine wpAny_bind (wpAny_lookBehind hoD (by rw [hdD]; exact pastItsLine_dict (Nat.le_trans hcD (by rw [List.length_cons]; omega))) ?_)
  exact wpAny_pure (h _ ⟨(hs2.2 _ (Ne.symm I.ne)).trans I.obj, hn2, I.ne⟩ hs2)
theorem make_map {R : Result → Shared → Prop} {vs : List Value} {kw : List (Str × Value)} (X : K.In s.heap) (hm : PySem.W.makesIn K C = true)
    (hi : PySem.W.findIn K (.ref C) "__init__" = some (some (.ref f))) (hf : PySem.W.typeIn K (.ref f) = some (.type "function"))
    (h : codeAny (model prog w) (A.under (.builtin "type.__call__" ⟨.ref C :: vs, kw⟩)) (.call (.ref f) ⟨.ref (s.heap.objs.size + 1) :: vs, kw⟩) (PySem.W.InitBack (s.heap.objs.size + 1) R)
      { s with heap := (s.heap.push PySem.W.emptyDict).push (PySem.W.instObj C s.heap.objs.size) }) :
    codeAny (model prog w) A (.call (.ref C) ⟨vs, kw⟩) R s := by
  obtain ⟨hh, g, d, t, os⟩ := s
  exact PySem.W.make_core (PySem.W.makes_of X hm) (PySem.W.looks_findIn X hi) (fun self => PySem.W.bind_fn X self hf) (.inl rfl) h
end
def putF (f : Str) (v : V) : List (Str × V) → List (Str × V)
  | [] => [(f, v)]
  | (g, x) :: r => if g = f then (g, v) :: r else (g, x) :: putF f v r
theorem lookup_putF (f g : Str) (v : V) : ∀ fs : List (Str × V), (putF f v fs).lookup g = if g = f then some v else fs.lookup g
  | [] => by
    show List.lookup g [(f, v)] = _
    by_cases h : g = f
    · have hb : (g == f) = true := beq_iff_eq.mpr h
      simp only [List.lookup, hb, if_pos h]
    · have hb : (g == f) = false := beq_eq_false_iff_ne.mpr h
      simp only [List.lookup, hb, if_neg h]
  | (k, x) :: r => by
    have ih := lookup_putF f g v r
    rw [show putF f v ((k, x) :: r) = (if k = f then (k, v) :: r else (k, x) :: putF f v r) from rfl]
    by_cases hk : k = f
    · rw [if_pos hk]
      by_cases h : g = k
      · have hb : (g == k) = true := beq_iff_eq.mpr h
        simp only [List.lookup, hb, if_pos (h.trans hk)]
      · have hb : (g == k) = false := beq_eq_false_iff_ne.mpr h
        simp only [List.lookup, hb, if_neg (fun e : g = f => h (e.trans hk.symm))]
    · rw [if_neg hk]
      by_cases h : g = k
      · have hb : (g == k) = true := beq_iff_eq.mpr h
        simp only [List.lookup, hb, if_neg (fun e : g = f => hk (h.symm.trans e))]
      · have hb : (g == k) = false := beq_eq_false_iff_ne.mpr h
        simp only [List.lookup, hb]
        exact ih
theorem keys_putF (f : Str) (v : V) : ∀ fs : List (Str × V), f ∈ (putF f v fs).map (·.1) ∧ ∀ g, g ∈ fs.map (·.1) → g ∈ (putF f v fs).map (·.1)
  | [] => ⟨by simp [putF], fun g h => by simp at h⟩
  | (k, x) :: r => by
    obtain ⟨i1, i2⟩ := keys_putF f v r
    rw [show putF f v ((k, x) :: r) = (if k = f then (k, v) :: r else (k, x) :: putF f v r) from rfl]
    by_cases hk : k = f
    · rw [if_pos hk]
      subst hk
      exact ⟨by simp, fun g h => by simpa using h⟩
    · rw [if_neg hk]
      refine ⟨?_, fun g h => ?_⟩
      · rw [List.map_cons]
        exact List.mem_cons_of_mem _ i1
      · rw [List.map_cons] at h ⊢
        rcases List.mem_cons.mp h with e | e
        · exact List.mem_cons.mpr (.inl e)
        · exact List.mem_cons_of_mem _ (i2 g e)
theorem length_putF (f : Str) (v : V) : ∀ fs : List (Str × V), (putF f v fs).length ≤ fs.length + 1
  | [] => by simp [putF]
  | (k, x) :: r => by
    have ih := length_putF f v r
    rw [show putF f v ((k, x) :: r) = (if k = f then (k, v) :: r else (k, x) :: putF f v r) from rfl]
    by_cases hk : k = f
    · rw [if_pos hk, List.length_cons, List.length_cons]; omega
    · rw [if_neg hk, List.length_cons, List.length_cons]; omega
theorem RelO.some_of {v : V} {o : Option Value} (r : RelO (some v) o) : ∃ u, o = some u ∧ RelV v u := by
  cases o with
  | none => exact (show False from r).elim
  | some u => exact ⟨u, rfl, r⟩
theorem RelO.none_of {o : Option Value} (r : RelO none o) : o = none := by
  cases o with
  | none => rfl
  | some u => exact (show False from r).elim
theorem handed_of {v : V} {u : Value} (r : RelV v u) : PySem.W.handedIn u = true := by
  cases v with
  | non => cases (show u = Value.none from r); rfl
  | bl b => cases (show u = Value.bool b from r); rfl
  | int i => obtain ⟨t, e⟩ := (show ∃ t, u = Value.int i t from r); cases e; rfl
  | str x => obtain ⟨t, e⟩ := (show ∃ t, u = Value.str x t from r); cases e; rfl
  | byt b => obtain ⟨t, e⟩ := (show ∃ t, u = Value.bytes b t from r); cases e; rfl
  | flt b => obtain ⟨t, e⟩ := (show ∃ t, u = Value.float b t from r); cases e; rfl
  | ref a => cases (show u = Value.ref a from r); rfl
  | ty n => cases (show u = Value.type n from r); rfl
section
variable {P : Program} {w : World} {H H' : Hp} {h h' : Heap} {a C dx : Addr} {fs fs' : List (Str × V)}
theorem ins_get (hok : HOk P w H h) (e : H a = some (.ins C dx fs)) : ∃ mA, ObjM h a dx C mA ∧ (∀ f, RelO (fs.lookup f) (mA f)) ∧ PySem.Within mA (fs.map (·.1)) ∧ fs.length ≤ 1000 ∧ H dx = some (.own a) := by
  obtain ⟨d, z, ne, ob, mA, n, r, q⟩ := (show ObjOk P w H h a (.ins C dx fs) from hok a _ e)
  exact ⟨mA, ⟨ob, n, ne⟩, r, q, z, d⟩
end
structure Cls (K : PySem.W.Frag) (C : Addr) : Prop where
  pg : PySem.W.plainGet K C Str.empty = true
  hd : PySem.W.hasDictIn K C = true
  po : PySem.W.plainOver K C = true
  sa : PySem.W.findIn K (.ref C) "__setattr__" = some (some (.builtin "object.__setattr__"))
theorem Cls.get {K : PySem.W.Frag} {C : Addr} (c : Cls K C) (f : Str) : PySem.W.plainGet K C f = true := c.pg
def NoAttr (K : PySem.W.Frag) (C : Addr) (f : Str) : Prop := PySem.W.findIn K (.ref C) f = some none
theorem NoAttr.taker {K : PySem.W.Frag} {C : Addr} {f : Str} (n : NoAttr K C f) : PySem.W.takerIn K C f = some none := by
  unfold PySem.W.takerIn
  rw [show PySem.W.findIn K (.ref C) f = some none from n]
  rfl
structure Meth (K : PySem.W.Frag) (C : Addr) (m : Str) (f : Addr) : Prop where
  at_ : PySem.W.findIn K (.ref C) m = some (some (.ref f))
  fn : PySem.W.isFn K (.ref f) = true
  kp : PySem.W.keepIn K (.ref f) = true
section
variable {X : Cx} {pins : List (Addr × Obj)} {σ : St} {H : Hp} {s : Shared} {a C dx : Addr} {fs : List (Str × V)} {f : Str} {v : V} {A : Around} {E : Value → Shared → Prop}
theorem getattr_ok {b : Bool} {Q : Value → Shared → Prop} (I : Inv X pins σ H s) (e : H a = some (.ins C dx fs)) (c : Cls X.K C) (n : NoAttr X.K C f) (l : fs.lookup f = some v)
    (h : ∀ u s', Inv X pins σ H s' → RelV v u → Q u s') : wpAny (model X.prog X.w) A (getAttr (.ref a) f b) Q E s := by
  obtain ⟨mA, O, r, _, _, _⟩ := ins_get I.hok e
  obtain ⟨u, hu, ru⟩ := RelO.some_of (v := v) (o := mA f) (by rw [← l]; exact r f)
  exact get_map I.kIn O (c.get f) c.hd n hu (handed_of ru) (h u _ (I.tok _) ru)
theorem getmeth_ok {m : Str} {g : Addr} {pl : Sem Bool} {Q : Value × List Value → Shared → Prop} (I : Inv X pins σ H s) (e : H a = some (.ins C dx fs)) (c : Cls X.K C) (k : Meth X.K C m g) (l : fs.lookup m = none)
    (h : Q (.ref g, [.ref a]) s) : wpAny (model X.prog X.w) A (getMethod (.ref a) m pl) Q E s := by
  obtain ⟨mA, O, r, _, _, _⟩ := ins_get I.hok e
  have hn : mA m = none := RelO.none_of (by rw [← l]; exact r m)
  exact get_meth I.kIn O (c.get m) k.at_ k.fn hn h
theorem setattr_ok {y : V} {u : Value} {Q : Unit → Shared → Prop} (I : Inv X pins σ H s) (e : H a = some (.ins C dx fs)) (c : Cls X.K C) (n : NoAttr X.K C f) (hl : fs.length < 1000) (ry : RelV y u)
    (h : ∀ s', Inv X pins σ (upd H a (.ins C dx (putF f y fs))) s' → Q () s') : wpAny (model X.prog X.w) A (setAttr (.ref a) f u) Q E s := by
  obtain ⟨mA, O, r, wi, _, ho⟩ := ins_get I.hok e
  have hz : (fs.map (·.1)).length ≤ sizeLine := by rw [List.length_map, sizeLine_eq]; omega
  refine set_map I.kIn O c.sa c.po n.taker c.hd wi hz fun h' O' sb => h _ ?_
  have hd : ∃ o, h'.get? dx = some o := let ⟨o, _, _, e', _⟩ := O'.ns; ⟨o, e'⟩
  refine I.write (x := a) (e := dx) (by rw [e]; exact True.intro) (.inr ho) (fun b q hb z => (sb.2 b hb).trans z) hd ?_
  refine ⟨by rw [upd_ne O.ne]; exact ho, ?_, O.ne, O'.obj, _, O'.ns, fun g => ?_, fun g hg => ?_⟩
  · have := length_putF f y fs; omega
  · show RelO ((putF f y fs).lookup g) (if g = f then some u else mA g)
    rw [lookup_putF]
    by_cases q : g = f
    · rw [if_pos q, if_pos q]; exact ry
    · rw [if_neg q, if_neg q]; exact r g
  · by_cases q : g = f
    · rw [q]; exact (keys_putF f y fs).1
    · refine (keys_putF f y fs).2 g (wi g fun z => hg ?_)
      show (if g = f then some u else mA g) = none
      rw [if_neg q]; exact z
theorem Inv.made (I : Inv X pins σ H s) : Inv X pins σ (upd (upd H s.heap.objs.size (.own (s.heap.objs.size + 1))) (s.heap.objs.size + 1) (.ins C s.heap.objs.size []))
    { s with heap := (s.heap.push PySem.W.emptyDict).push (PySem.W.instObj C s.heap.objs.size) } := by
  have e1 : (s.heap.push PySem.W.emptyDict).get? s.heap.objs.size = some PySem.W.emptyDict := Heap.get?_push_size s.heap rfl
  have e2 : ((s.heap.push PySem.W.emptyDict).push (PySem.W.instObj C s.heap.objs.size)).get? (s.heap.objs.size + 1) = some (PySem.W.instObj C s.heap.objs.size) := by
    have := Heap.get?_push_size (s.heap.push PySem.W.emptyDict) (o := PySem.W.instObj C s.heap.objs.size) rfl
    rwa [Heap.size_push] at this
  have e3 : (s.heap.push PySem.W.emptyDict).Ns s.heap.objs.size (fun _ => none) := ⟨PySem.W.emptyDict, #[], _, e1, rfl, (fun e he => absurd he (by simp)), fun _ => rfl⟩
  have I1 := I.laid (a := s.heap.objs.size) (o := .own (s.heap.objs.size + 1)) (h' := s.heap.push PySem.W.emptyDict) (t' := s.toks) (fun b u q => Heap.get?_push_of_some _ q) (Nat.le_refl _) ⟨_, e1⟩
  refine I1.laid (a := s.heap.objs.size + 1) (o := .ins C s.heap.objs.size []) (t' := s.toks) (fun b u q => Heap.get?_push_of_some _ q) (Nat.le_of_eq (Heap.size_push _ _)) ?_
  have ne : s.heap.objs.size ≠ s.heap.objs.size + 1 := Nat.ne_of_lt (Nat.lt_succ_self _)
  refine ⟨by rw [upd_ne ne, upd_same], Nat.zero_le _, ne, e2, fun _ => none, (Heap.Ns1.of_empty e3).at fun o q => Heap.get?_push_of_some _ q, fun _ => True.intro, fun y hy => absurd rfl hy⟩
theorem attr_of {prog : Program} {w : World} {env : Env} {e : Expr} {f : Str} {pos : Pos} {s : Shared} {Q : Value → Shared → Prop} (hb : attributeBase e f env (eval e env) = eval e env)
    (h : wpAny (model prog w) A (eval e env) (fun o s₁ => wpAny (model prog w) A (getAttr o f true) Q E s₁) E s) : wpAny (model prog w) A (eval (.Attribute e f pos) env) Q E s :=
  Attribute_any_ h (by rw [arm_eval_Attribute, hb])
end
def tFld (K : PySem.W.Frag) (ta : TE) (f : Str) : TE := fun σ H Q => ta σ H fun x H1 => ∃ a C dx fs v, x = .ref a ∧ H1 a = some (.ins C dx fs) ∧ Cls K C ∧ NoAttr K C f ∧ fs.lookup f = some v ∧ Q v H1
def sFld (K : PySem.W.Frag) (ta tv : TE) (f : Str) : TS := fun D σ H => tv σ H fun y H1 => ta σ H1 fun x H2 => ∃ a C dx fs, x = .ref a ∧ H2 a = some (.ins C dx fs) ∧ Cls K C ∧ NoAttr K C f ∧ fs.length < 1000 ∧
  D.nx σ (upd H2 a (.ins C dx (putF f y fs)))
section
variable {X : Cx} {o e value : Expr} {f : Str} {pos pos' tpos : Pos} {ta tv : TE}
theorem pe_fld (he : PE X e ta) (hb : attributeBase e f X.env (eval e X.env) = eval e X.env) : PE X (.Attribute e f pos) (tFld X.K ta f) := by
  intro pins s σ H Q I h
  refine attr_of hb (thn (he pins s σ H _ I h) fun u s1 ⟨x, H1, I1, rx, a, C, dx, fs, v, ex, ea, c, n, l, q⟩ => ?_)
  subst ex
  obtain rfl : u = Value.ref a := rx
  exact getattr_ok I1 ea c n l fun u' s2 I2 ru => ⟨v, H1, I2, ru, q⟩
theorem ps_fld (ha : PE X o ta) (hv : PE X value tv) (hs : swapsWith value (some (.Attribute o f pos')) pos.line X.env = pure false) : PS X (.Assign [.Attribute o f pos'] value pos) (sFld X.K ta tv f) := by
  intro pins s σ H D I h
  refine plainObj_wpAny_Assign_Attribute (thn (hv pins s σ H _ I h) fun u s1 ⟨y, H1, I1, ry, q⟩ => thn (ha pins s1 σ H1 _ I1 q) fun ov s2 ⟨x, H2, I2, rx, a, C, dx, fs, ex, ea, c, n, l, q2⟩ => ?_) hs
  subst ex
  obtain rfl : ov = Value.ref a := rx
  exact setattr_ok I2 ea c n l ry fun s3 I3 => ⟨σ, _, I3, q2⟩
end
end L2
namespace L2
open PySem PySem.Spec PyProof.Rows
structure Room (k : Nat) (A : Around) : Prop where
  hd : A.handled = none
  dp : A.depth + 3 * k + 5 < recursionLimit
  un : A.units + 16 * k + 200 < cLine
theorem Room.mono {j k : Nat} {A : Around} (r : Room k A) (h : j ≤ k) : Room j A := ⟨r.hd, by have := r.dp; omega, by have := r.un; omega⟩
theorem Room.deeper {k : Nat} {A : Around} (r : Room (k + 1) A) (env : Env) : Room k (A.deeper env) :=
  ⟨r.hd, by have := r.dp; show A.depth + 1 + 3 * k + 5 < _; omega, by have := r.un; show A.units + 3 + 16 * k + 200 < _; omega⟩
theorem make_depth {A : Around} {C : Addr} {us : List Value} {kw : List (Str × Value)} : (A.under (.builtin "type.__call__" ⟨.ref C :: us, kw⟩)).depth = A.depth + 1 := by
  first | rfl | simp [Around.under, Code.weight, Code.isCreation, Code.isGuard, Code.isCaller, Code.frames, Code.isFrame, guardIds]
theorem make_units {A : Around} {C : Addr} {us : List Value} {kw : List (Str × Value)} : (A.under (.builtin "type.__call__" ⟨.ref C :: us, kw⟩)).units = A.units + 1 := by
  first | rfl | simp [Around.under, Code.cUnits, Code.frames, Code.isFrame]
theorem Room.make {k : Nat} {A : Around} (r : Room (k + 1) A) (C : Addr) (us : List Value) (kw : List (Str × Value)) : Room k (A.under (.builtin "type.__call__" ⟨.ref C :: us, kw⟩)) :=
  ⟨r.hd, by have := r.dp; rw [make_depth]; omega, by have := r.un; rw [make_units]; omega⟩
theorem Room.depth {k : Nat} {A : Around} (r : Room k A) : A.depth < recursionLimit := by have := r.dp; omega
def tNil : TA := fun _ H Q => Q [] H
def tCons (ta : TE) (tr : TA) : TA := fun σ H Q => ta σ H fun x H1 => tr σ H1 fun xs H2 => Q (x :: xs) H2
section
variable {X : Cx} {e : Expr} {es : List Expr} {te : TE} {t : TA} {pos : Pos}
theorem pa_nil : PA X [] tNil := fun _ _ _ _ H Q I h => Calls.spliced_nil ⟨[], H, I, .nil, h⟩
theorem pa_cons (ha : PE X e te) (hr : PA X es t) (hs : starEach (e :: es) X.env = (false, eval e X.env) :: starEach es X.env := by rfl) : PA X (e :: es) (tCons te t) := by
  intro pos pins s σ H Q I h
  rw [hs]
  show wpAny _ _ (spliced ((false, eval e X.env) :: backTo pos (starEach es X.env))) _ _ s
  refine Calls.spliced_cons (thn (ha pins s σ H _ I h) fun u s1 ⟨x, H1, I1, r1, q1⟩ => ?_)
  exact thn (hr pos pins s1 σ H1 _ I1 q1) fun us s2 ⟨xs, H2, I2, r2, q2⟩ => ⟨x :: xs, H2, I2, .cons r1 r2, q2⟩
def tLst (t : TA) : TE := fun σ H Q => t σ H fun xs H1 => xs.length ≤ sizeLine ∧ ∀ p, H1 p = none → Q (.ref p) (upd H1 p (.lst xs))
theorem pe_lst (h : PA X es t) : PE X (.List es pos) (tLst t) := by
  intro pins s σ H Q I hq
  refine wpAny_List_spliced (thn (h pos pins s σ H _ I hq) fun us s1 ⟨xs, H1, I1, r, z, q⟩ => ⟨by rw [← r.length]; exact z, ?_⟩)
  have hf : H1 s1.heap.objs.size = none := I1.hok.fresh (Nat.le_refl _)
  refine ⟨.ref s1.heap.objs.size, upd H1 s1.heap.objs.size (.lst xs), I1.laid (t' := s1.toks) (fun b u e => Heap.get?_push_of_some _ e) (Nat.le_refl _) ?_, rfl, q _ hf⟩
  exact ⟨z, us, 0, r, Heap.get?_push_size _ rfl⟩
end
abbrev Sp := List V → Hp → VK → XK → Prop
abbrev CXT := List Env → Hp → Shared → XK → Value → Shared → Prop
structure Env0 (P : Program) (w : World) (K : PySem.W.Frag) (mg : Str → Option Value) (base : Heap) (A : Around) (outer : List Env) (s : Shared) (H : Hp) : Prop where
  frames : A.frames = some outer
  mod : Mod K mg base
  bs : ∀ b o, base.get? b = some o → s.heap.get? b = some o ∧ H b = none
  bsz : base.objs.size ≤ s.heap.objs.size
  funs : s.heap.FunFrames base outer
  frf : ∀ b ∈ frs outer, H b = none
  hok : HOk P w H s.heap
  bare : AllBare s.gens
def CE (outer : List Env) (P : Program) (w : World) (H : Hp) (s : Shared) (Q : VK) (u : Value) (s' : Shared) : Prop :=
  ∃ v H', s'.os = s.os ∧ AllBare s'.gens ∧ Un (frs outer) [] H H' s.heap s'.heap ∧ HOk P w H' s'.heap ∧ RelV v u ∧ Q v H'
def CR (CX : CXT) (outer : List Env) (P : Program) (w : World) (H : Hp) (s : Shared) (Q : VK) (E : XK) (r : Result) (s' : Shared) : Prop :=
  match r with
  | .ok (.ret u) => CE outer P w H s Q u s'
  | .ok _ => False
  | .error e => CX outer H s E e s'
structure FnOk (P : Program) (w : World) (K : PySem.W.Frag) (mg : Str → Option Value) (base : Heap) (CX : CXT) (k : Nat) (f : Addr) (fd : FuncData) (ps : List Str) (sp : Sp) : Prop where
  len : ∀ vs H Q E, sp vs H Q E → vs.length = ps.length
  run : ∀ (A : Around) (outer : List Env) (s : Shared) (H : Hp) (args : Args) (us : List Value) (vs : List V) (Q : VK) (E : XK), Room k A → Env0 P w K mg base A outer s H → BindsTo s fd args (ps.zip us) → Vals vs us → sp vs H Q E →
    codeAny (model P w) A (.call (.ref f) args) (CR CX outer P w H s Q E) s
theorem Env0.make {P : Program} {w : World} {K : PySem.W.Frag} {mg : Str → Option Value} {base : Heap} {A : Around} {outer : List Env} {s : Shared} {H : Hp} (e : Env0 P w K mg base A outer s H) (C : Addr) (us : List Value) (kw : List (Str × Value)) :
    Env0 P w K mg base (A.under (.builtin "type.__call__" ⟨.ref C :: us, kw⟩)) outer s H := ⟨by first | exact e.frames | (simpa [Around.under, Code.envs, Code.isFrame, pushEnvs] using e.frames), e.mod, e.bs, e.bsz, e.funs, e.frf, e.hok, e.bare⟩
section
variable {X : Cx} {pins : List (Addr × Obj)} {σ : St} {H : Hp} {s s' : Shared}
theorem Inv.env0 (I : Inv X pins σ H s) : Env0 X.prog X.w X.K X.mg X.base X.A X.stack s H :=
  ⟨I.ok.frames, I.ok.mod, I.bs, Nat.le_trans I.ok.bsz I.sz, I.stack, I.stkFree, I.hok, I.bare⟩
theorem Inv.after {Q : VK} {u : Value} (I : Inv X pins σ H s) (h : CE X.stack X.prog X.w H s Q u s') : EP X pins σ Q u s' := by
  obtain ⟨v, H', os, bare, un, hok, r, q⟩ := h
  obtain ⟨hh, g, d, t, os'⟩ := s'
  obtain rfl : os' = s.os := os
  exact ⟨v, H', I.call (h' := hh) (g' := g) (d' := d) (t' := t) (ch := []) un hok bare (fun b z => absurd z (by simp)), r, q⟩
end
def tCall (sp : Sp) (dvs : List V) (E : XK) (t : TA) : TE := fun σ H Q => t σ H fun vs H1 => sp (vs ++ dvs) H1 Q E
def tMeth (C : Addr) (m : Str) (sp : Sp) (dvs : List V) (E : XK) (ta : TE) (t : TA) : TE := fun σ H Q => ta σ H fun x H1 => ∃ a dx fs, x = .ref a ∧ H1 a = some (.ins C dx fs) ∧ fs.lookup m = none ∧
  t σ H1 fun vs H2 => sp (x :: (vs ++ dvs)) H2 Q E
def tMake (C : Addr) (sp : Sp) (dvs : List V) (E : XK) (t : TA) : TE := fun σ H Q => t σ H fun vs H1 => ∀ x dx, H1 x = none → H1 dx = none → dx ≠ x →
  sp (.ref x :: (vs ++ dvs)) (upd (upd H1 dx (.own x)) x (.ins C dx [])) (fun v H2 => v = .non ∧ Q (.ref x) H2) E
def Binds (K : PySem.W.Frag) (fd : FuncData) (ps : List Str) (ds : List Value) : Prop :=
  ∀ (s : Shared) (us : List Value), K.In s.heap → (us ++ ds).length = ps.length → BindsTo s fd ⟨us, []⟩ (ps.zip (us ++ ds))
theorem Binds.all {K : PySem.W.Frag} {fd : FuncData} {ps : List Str} (h : ∀ us : List Value, us.length = ps.length → bindArgs fd ⟨us, []⟩ = pure (ps.zip us)) : Binds K fd ps [] := fun s us _ hl => by
  rw [List.append_nil] at hl ⊢
  exact .of_eq (h us hl)
def Passes (CX : CXT) (X : Cx) (E : XK) : Prop := ∀ (pins : List (Addr × Obj)) (σ : St) (H : Hp) (s : Shared) (e : Value) (s' : Shared), Inv X pins σ H s → CX X.stack H s E e s' → X.xe e s'
section
variable {X : Cx} {CX : CXT} {k : Nat} {f C : Addr} {fd : FuncData} {ps : List Str} {sp : Sp} {dvs : List V} {ds : List Value} {E : XK} {x m : Str} {p pos apos : Pos} {e o : Expr} {es : List Expr} {ta : TE} {t : TA}
theorem run_fn {pins : List (Addr × Obj)} {σ : St} {H : Hp} {s : Shared} {Q : VK} {us : List Value} {vs : List V} (F : FnOk X.prog X.w X.K X.mg X.base CX k f fd ps sp) (hr : Room k X.A) (hb : Binds X.K fd ps ds) (hd : Vals dvs ds) (hx : Passes CX X E)
    (I : Inv X pins σ H s) (r : Vals vs us) (h : sp (vs ++ dvs) H Q E) : wpAny (model X.prog X.w) X.A (call (.ref f) us) (EP X pins σ Q) X.xe s := by
  have r2 : Vals (vs ++ dvs) (us ++ ds) := r.append hd
  have hl : (us ++ ds).length = ps.length := by rw [← r2.length]; exact F.len _ _ _ _ h
  refine wpAny_call (codeAny_mono (F.run X.A X.stack s H ⟨us, []⟩ (us ++ ds) (vs ++ dvs) Q E hr I.env0 (hb s us I.kIn hl) r2 h) fun r s' hq => ?_)
  cases r with
  | error e => exact hx pins σ H s e s' I hq
  | ok fl =>
    cases fl with
    | ret u => exact I.after hq
    | next => exact False.elim hq
    | brk => exact False.elim hq
    | cont => exact False.elim hq
theorem pe_call (F : FnOk X.prog X.w X.K X.mg X.base CX k f fd ps sp) (hr : Room k X.A) (hg : Gl X x) (hm : X.mg x = some (.ref f)) (hk : PySem.W.keepIn X.K (.ref f) = true) (hb : Binds X.K fd ps ds) (hd : Vals dvs ds) (hx : Passes CX X E)
    (ha : PA X (e :: es) t) (hdb : (x == ("__debug__" : Str)) = false := by decide) (he : starEach (e :: es) X.env = (false, eval e X.env) :: starEach es X.env := by rfl) (hpl : (backTo pos (starEach es X.env)).any (·.1) = false := by rfl) :
    PE X (.Call (.Name x p) (e :: es) [] pos) (tCall sp dvs E t) := by
  intro pins s σ H Q I h
  refine wpAny_Call_Name_kw (ld_glob I hg hm ?_ hdb)
  refine PySem.W.callWith_K (h₀ := X.base) I.ok.mod.kin hk (thn (ha pos pins s σ H _ I h) fun us s1 ⟨vs, H1, I1, r, q⟩ => ⟨I1.kIn, ?_⟩) he hpl
  exact run_fn F hr hb hd hx I1 r q
theorem pe_meth {pl : Sem Bool} (he : PE X o ta) (c : Cls X.K C) (hm : Meth X.K C m f) (F : FnOk X.prog X.w X.K X.mg X.base CX k f fd ps sp) (hr : Room k X.A) (hb : Binds X.K fd ps ds) (hd : Vals dvs ds) (hx : Passes CX X E) (ha : PA X (e :: es) t)
    (hst : starEach (e :: es) X.env = (false, eval e X.env) :: starEach es X.env := by rfl) (hpl : (backTo pos (starEach es X.env)).any (·.1) = false := by rfl)
    (ht : eval (.Call (.Attribute o m apos) (e :: es) [] pos) X.env = (do
      let ov ← eval o X.env
      standAt apos.atName
      let (f, first) ← holding [ov] (getMethod ov m pl)
      callWith pos f first (backTo pos (starEach (e :: es) X.env)) (backToKw pos (keywordEach [] X.env))) := by rfl) :
    PE X (.Call (.Attribute o m apos) (e :: es) [] pos) (tMeth C m sp dvs E ta t) := by
  intro pins s σ H Q I h
  refine PySem.W.methodCall_KW (pl := pl) (thn (he pins s σ H _ I h) fun u s1 ⟨x, H1, I1, rx, a, dx, fs, ex, ea, l, q⟩ => ?_) ht
  subst ex
  obtain rfl : u = Value.ref a := rx
  refine getmeth_ok I1 ea c hm l ?_
  refine PySem.W.callWith_K (first := [.ref a]) (h₀ := X.base) I.ok.mod.kin hm.kp (thn (ha pos pins s1 σ H1 _ I1 q) fun us s2 ⟨vs, H2, I2, r, q2⟩ => ⟨I2.kIn, ?_⟩) hst hpl
  exact run_fn (us := .ref a :: us) (vs := .ref a :: vs) F hr hb hd hx I2 (.cons rfl r) q2
theorem pe_meth0 {pl : Sem Bool} (he : PE X o ta) (c : Cls X.K C) (hm : Meth X.K C m f) (F : FnOk X.prog X.w X.K X.mg X.base CX k f fd ps sp) (hr : Room k X.A) (hb : Binds X.K fd ps ds) (hd : Vals dvs ds) (hx : Passes CX X E)
    (ht : eval (.Call (.Attribute o m apos) [] [] pos) X.env = (do
      let ov ← eval o X.env
      standAt apos.atName
      let (f, first) ← holding [ov] (getMethod ov m pl)
      callWith pos f first (backTo pos (starEach [] X.env)) (backToKw pos (keywordEach [] X.env))) := by rfl) :
    PE X (.Call (.Attribute o m apos) [] [] pos) (tMeth C m sp dvs E ta tNil) := by
  intro pins s σ H Q I h
  refine PySem.W.methodCall_KW (pl := pl) (thn (he pins s σ H _ I h) fun u s1 ⟨x, H1, I1, rx, a, dx, fs, ex, ea, l, q⟩ => ?_) ht
  subst ex
  obtain rfl : u = Value.ref a := rx
  refine getmeth_ok I1 ea c hm l ?_
  exact PySem.W.callWith_K0 (first := [.ref a]) I1.kIn hm.kp (run_fn (us := [.ref a]) (vs := [.ref a]) F hr hb hd hx I1 (.cons rfl .nil) q)
structure Mk (K : PySem.W.Frag) (C f : Addr) : Prop where
  makes : PySem.W.makesIn K C = true
  init : PySem.W.findIn K (.ref C) "__init__" = some (some (.ref f))
  fn : PySem.W.isFn K (.ref f) = true
  kp : PySem.W.keepIn K (.ref C) = true
theorem run_make {pins : List (Addr × Obj)} {σ : St} {H : Hp} {s : Shared} {Q : VK} {us : List Value} {vs : List V} (M : Mk X.K C f) (F : FnOk X.prog X.w X.K X.mg X.base CX k f fd ps sp) (hr : Room (k + 1) X.A) (hb : Binds X.K fd ps ds) (hd : Vals dvs ds)
    (hx : Passes CX X E) (I : Inv X pins σ H s) (r : Vals vs us)
    (h : ∀ x dx, H x = none → H dx = none → dx ≠ x → sp (.ref x :: (vs ++ dvs)) (upd (upd H dx (.own x)) x (.ins C dx [])) (fun v H2 => v = .non ∧ Q (.ref x) H2) E) :
    wpAny (model X.prog X.w) X.A (call (.ref C) us) (EP X pins σ Q) X.xe s := by
  have hq := h (s.heap.objs.size + 1) s.heap.objs.size (I.hok.fresh (Nat.le_succ _)) (I.hok.fresh (Nat.le_refl _)) (Nat.ne_of_lt (Nat.lt_succ_self _))
  have I2 := Inv.made (C := C) I
  have r2 : Vals (V.ref (s.heap.objs.size + 1) :: (vs ++ dvs)) (Value.ref (s.heap.objs.size + 1) :: (us ++ ds)) := .cons rfl (r.append hd)
  have hl : (Value.ref (s.heap.objs.size + 1) :: us ++ ds).length = ps.length := by
    have e := r2.length
    rw [F.len _ _ _ _ hq] at e
    exact e.symm
  refine wpAny_call (make_map (f := f) I.kIn M.makes M.init (beq_iff_eq.mp M.fn) (codeAny_mono (F.run _ X.stack _ _ ⟨Value.ref (s.heap.objs.size + 1) :: us, []⟩ (Value.ref (s.heap.objs.size + 1) :: (us ++ ds)) _ _ E (hr.make C us [])
    (I2.env0.make C us []) (hb _ (Value.ref (s.heap.objs.size + 1) :: us) I2.kIn hl) r2 hq) fun r s' hq' => ?_))
  cases r with
  | error e => exact hx pins σ _ _ e s' I2 hq'
  | ok fl =>
    cases fl with
    | ret u =>
      obtain ⟨v, H', I3, rv, ev, q3⟩ := I2.after hq'
      subst ev
      exact ⟨rv, ⟨V.ref (s.heap.objs.size + 1), H', I3, rfl, q3⟩⟩
    | next => exact False.elim hq'
    | brk => exact False.elim hq'
    | cont => exact False.elim hq'
theorem pe_make (M : Mk X.K C f) (F : FnOk X.prog X.w X.K X.mg X.base CX k f fd ps sp) (hr : Room (k + 1) X.A) (hg : Gl X x) (hm : X.mg x = some (.ref C)) (hb : Binds X.K fd ps ds) (hd : Vals dvs ds) (hx : Passes CX X E)
    (ha : PA X (e :: es) t) (hdb : (x == ("__debug__" : Str)) = false := by decide) (he : starEach (e :: es) X.env = (false, eval e X.env) :: starEach es X.env := by rfl) (hpl : (backTo pos (starEach es X.env)).any (·.1) = false := by rfl) :
    PE X (.Call (.Name x p) (e :: es) [] pos) (tMake C sp dvs E t) := by
  intro pins s σ H Q I h
  refine wpAny_Call_Name_kw (ld_glob I hg hm ?_ hdb)
  refine PySem.W.callWith_K (h₀ := X.base) I.ok.mod.kin M.kp (thn (ha pos pins s σ H _ I h) fun us s1 ⟨vs, H1, I1, r, q⟩ => ⟨I1.kIn, ?_⟩) he hpl
  exact run_make M F hr hb hd hx I1 r q
theorem pe_make0 (M : Mk X.K C f) (F : FnOk X.prog X.w X.K X.mg X.base CX k f fd ps sp) (hr : Room (k + 1) X.A) (hg : Gl X x) (hm : X.mg x = some (.ref C)) (hb : Binds X.K fd ps ds) (hd : Vals dvs ds) (hx : Passes CX X E)
    (hdb : (x == ("__debug__" : Str)) = false := by decide) : PE X (.Call (.Name x p) [] [] pos) (tMake C sp dvs E tNil) := by
  intro pins s σ H Q I h
  refine wpAny_Call_Name_kw (ld_glob I hg hm ?_ hdb)
  exact PySem.W.callWith_K0 I.kIn M.kp (run_make (us := []) M F hr hb hd hx I .nil h)
end
structure FnScope (N P : List Str) (sc : Scope) : Prop where
  kind : sc.kind = .function
  co : sc.isCoroutine = false
  gen : sc.isGenerator = false
  nd : N.Nodup
  pre : N.take P.length = P
  par : ∀ x ∈ P, sc.names.lookup x = some .local ∨ sc.names.lookup x = some .cell
  nofree : ∀ y ∈ sc.names, y.2 ≠ .free
theorem bindL_out {kindOf : Str → Option NameKind} {x : Str} : ∀ {binds : List (Str × Value)} {m : Str → Option Value}, (∀ v, (x, v) ∉ binds) → bindL kindOf binds m x = m x
  | [], _, _ => rfl
  | (n, v) :: r, m, h => by
    unfold bindL
    rw [bindL_out fun w hw => h w (List.mem_cons_of_mem _ hw)]
    split
    · have : x ≠ n := by rintro rfl; exact h v List.mem_cons_self
      simp [this]
    · rfl
theorem bindC_out {kindOf : Str → Option NameKind} {x : Str} : ∀ {binds : List (Str × Value)} {m : Str → Option Value}, (∀ v, (x, v) ∉ binds) → bindC kindOf binds m x = m x
  | [], _, _ => rfl
  | (n, v) :: r, m, h => by
    unfold bindC
    rw [bindC_out fun w hw => h w (List.mem_cons_of_mem _ hw)]
    split
    · rfl
    · have : x ≠ n := by rintro rfl; exact h v List.mem_cons_self
      simp [this]
theorem bindL_get {kindOf : Str → Option NameKind} {x : Str} {v : Value} : ∀ {P : List Str} {vs : List Value} {i : Nat} {m : Str → Option Value}, P.Nodup → P[i]? = some x → vs[i]? = some v → kindOf x = some .local →
    bindL kindOf (P.zip vs) m x = some v
  | [], _, _, _, _, h, _, _ => by simp at h
  | _ :: _, [], _, _, _, _, h, _ => by simp at h
  | p :: P, w :: vs, 0, m, nd, h1, h2, hk => by
    simp at h1 h2; subst h1; subst h2
    show bindL kindOf ((p, w) :: P.zip vs) m p = _
    unfold bindL
    rw [bindL_out fun v hv => (List.nodup_cons.mp nd).1 (List.of_mem_zip hv).1, if_pos hk]
    simp
  | p :: P, w :: vs, i + 1, m, nd, h1, h2, hk => by
    show bindL kindOf ((p, w) :: P.zip vs) m x = _
    unfold bindL
    exact bindL_get (i := i) (List.nodup_cons.mp nd).2 (by simpa using h1) (by simpa using h2) hk
theorem bindC_get {kindOf : Str → Option NameKind} {x : Str} {v : Value} : ∀ {P : List Str} {vs : List Value} {i : Nat} {m : Str → Option Value}, P.Nodup → P[i]? = some x → vs[i]? = some v → kindOf x ≠ some .local →
    bindC kindOf (P.zip vs) m x = some v
  | [], _, _, _, _, h, _, _ => by simp at h
  | _ :: _, [], _, _, _, _, h, _ => by simp at h
  | p :: P, w :: vs, 0, m, nd, h1, h2, hk => by
    simp at h1 h2; subst h1; subst h2
    show bindC kindOf ((p, w) :: P.zip vs) m p = _
    unfold bindC
    rw [bindC_out fun v hv => (List.nodup_cons.mp nd).1 (List.of_mem_zip hv).1, if_neg hk]
    simp
  | p :: P, w :: vs, i + 1, m, nd, h1, h2, hk => by
    show bindC kindOf ((p, w) :: P.zip vs) m x = _
    unfold bindC
    exact bindC_get (i := i) (List.nodup_cons.mp nd).2 (by simpa using h1) (by simpa using h2) hk
def start (N : List Str) (vs : List V) : St := vs.map some ++ List.replicate (N.length - vs.length) none
def cxOf (CX : CXT) (P : Program) (w : World) (K : PySem.W.Frag) (mg : Str → Option Value) (base : Heap) (N : List Str) (qual : Str) (scope : Scope) (f : Addr) (cd : Value) (A : Around) (outer : List Env) (s : Shared) (H : Hp) (E : XK) : Cx where
  prog := P
  w := w
  K := K
  mg := mg
  base := base
  A := A.deeper (envOfC qual scope s.heap.objs.size f cd)
  N := N
  s_0 := s
  H_0 := H
  env := envOfC qual scope s.heap.objs.size f cd
  outer := outer
  stack := envOfC qual scope s.heap.objs.size f cd :: outer
  ex := []
  calm := true
  fn := fun _ => true
  pn := []
  xe := fun e s' => wpAny (model P w) (A.deeper (envOfC qual scope s.heap.objs.size f cd)) (leaving (envOfC qual scope s.heap.objs.size f cd) e) (fun _ s'' => CX outer H s E e s'') (fun e' s'' => CX outer H s E e' s'') s'
theorem cell_has {sc : Scope} {n : Nat} {x : Str} (h : sc.names.lookup x = some .cell) : ∃ c, (cellsFrom n sc.names []).lookup x = some c := by
  have q := PySem.W.cellsFrom_some sc.names n [] (.inl h)
  exact Option.isSome_iff_exists.mp q
theorem inv_start {CX : CXT} {P : Program} {w : World} {K : PySem.W.Frag} {mg : Str → Option Value} {base : Heap} {N ps : List Str} {qual : Str} {scope : Scope} {f : Addr} {cd : Value} {A : Around} {outer : List Env} {s s1 : Shared} {H : Hp} {E : XK} {us : List Value} {vs : List V}
    (S : FnScope N ps scope) (hd : A.handled = none) (e0 : Env0 P w K mg base A outer s H) (hl : vs.length = ps.length) (r : Vals vs us)
    (x : InCallC s s.heap.objs.size (bindL (envOfC qual scope s.heap.objs.size f cd).kindOf (ps.zip us) fun _ => none) (cellsFrom (s.heap.objs.size + 1) scope.names []) (bindC (envOfC qual scope s.heap.objs.size f cd).kindOf (ps.zip us) fun _ => none) s1) :
    Inv (cxOf CX P w K mg base N qual scope f cd A outer s H E) [] (start N vs) H s1 := by
  have hpl : ps.length ≤ N.length := by have := congrArg List.length S.pre; rw [List.length_take] at this; omega
  obtain ⟨h1, tk, rfl, hk⟩ := x.done
  have noA : ∀ b : Addr, b ∉ (cxOf CX P w K mg base N qual scope f cd A outer s H E).ex := fun b z => absurd (show b ∈ ([] : List Addr) from z) (by simp)
  refine ⟨⟨e0.mod, S.kind, rfl, rfl, Nat.le_refl _, fun y z c h1 h2 => ?_, fun y hy => ?_, fun y c _ h => ?_, fun _ => hd, Around.frames_deeper e0.frames, .inr ⟨rfl, rfl⟩, fun b z => absurd z (noA b), e0.bs, e0.bsz, fun b _ _ => noA b, fun b z => absurd z (noA b), e0.funs, e0.frf⟩,
    rfl, e0.bare, Un.kept hk, ⟨_, x.toInCall.ns, fun i y v h1 h2 h3 => ?_⟩, fun y c h => ⟨_, x.cell y c h⟩, e0.hok.fresh (Nat.le_refl _), fun y c h => ?_, fun p hp => absurd (show p ∈ ([] : List (Addr × Obj)) from hp) (by simp), e0.hok.kept hk, ?_⟩
  · exact name_of_addr x.apart (PySem.mem_of_lookup h1) (PySem.mem_of_lookup h2)
  · have hy : scope.names.lookup y = some .cell ∨ scope.names.lookup y = some .free := hy
    rcases hy with hy | hy
    · exact cell_has hy
    · exact absurd rfl (S.nofree _ (PySem.mem_of_lookup hy))
  · exact Nat.le_of_lt (x.above y c (PySem.mem_of_lookup h))
  · have hi : i < vs.length := by
      unfold start at h2
      by_cases hi : i < vs.length
      · exact hi
      · rw [List.getElem?_append_right (by simpa using hi)] at h2
        rw [List.getElem?_replicate] at h2
        split at h2 <;> cases h2
    have ha : vs[i]? = some v := by
      unfold start at h2
      rw [List.getElem?_append_left (by simpa using hi), List.getElem?_map] at h2
      cases e : vs[i]? with
      | none => rw [e] at h2; cases h2
      | some a => rw [e] at h2; cases h2; rfl
    obtain ⟨u, hu, rv⟩ := r.get ha
    have hp : ps[i]? = some y := by
      rw [← S.pre, List.getElem?_take_of_lt (by omega)]; exact h1
    have ndP : ps.Nodup := by rw [← S.pre]; exact S.nd.sublist (List.take_sublist _ _)
    refine ⟨u, rv, ?_⟩
    rcases S.par y (List.mem_of_getElem? hp) with k | k
    · exact .inl ⟨k, bindL_get ndP hp hu k⟩
    · obtain ⟨c, e⟩ := cell_has (n := s.heap.objs.size + 1) k
      refine .inr ⟨.inl k, c, e, ?_⟩
      have q := x.cell y c e
      rw [bindC_get ndP hp hu (by show scope.names.lookup y ≠ _; rw [k]; decide)] at q
      exact q
  · exact e0.hok.fresh (Nat.le_of_lt (x.above y c (PySem.mem_of_lookup h)))
  · unfold start
    show _ = N.length
    rw [List.length_append, List.length_map, List.length_replicate]
    omega
theorem fn_of {CX : CXT} {P : Program} {w : World} {K : PySem.W.Frag} {mg : Str → Option Value} {base : Heap} {k : Nat} {f : Addr} {name qual : Str} {params : Arguments} {body : List Stmt} {scope : Scope} {dV kV doc pm cdv ct oc : Value} {an od : Option Addr}
    {osl : Array (Option Value)} {N ps : List Str} {sp : Sp} (lk : K.lookup f = some ⟨oc, od, .func (PySem.W.fnOf name qual params body scope dV kV doc pm an cdv ct), osl⟩) (hcd : PySem.W.codeIn K cdv qual = true) (S : FnScope N ps scope)
    (len : ∀ vs H Q E, sp vs H Q E → vs.length = ps.length)
    (hbody : ∀ (A : Around) (outer : List Env) (s : Shared) (H : Hp) (vs : List V) (Q : VK) (E : XK), Room k (A.deeper (envOfC qual scope s.heap.objs.size f cdv)) → sp vs H Q E →
      ∃ t, PSs (cxOf CX P w K mg base N qual scope f cdv A outer s H E) body t ∧ t { nx := fun _ H' => Q .non H', rt := Q } (start N vs) H) :
    FnOk P w K mg base CX (k + 1) f (PySem.W.fnOf name qual params body scope dV kV doc pm an cdv ct) ps sp := by
  refine ⟨len, fun A outer s H args us vs Q E hr e0 hb r hsp => ?_⟩
  have hl := len _ _ _ _ hsp
  have KX : K.In s.heap := e0.mod.kin.keeps fun b o e => (e0.bs b o e).1
  have lim : s.heap.NoLimit := e0.mod.nolimit.keeps fun b o e => (e0.bs b o e).1
  have hkind : ∀ y ∈ ps.zip us, scope.names.lookup y.1 = some .local ∨ (scope.names.lookup y.1 = some .cell ∧ ((cellsFrom (s.heap.objs.size + 1) scope.names []).lookup y.1).isSome = true) := fun ⟨n, v⟩ hy => by
    rcases S.par n (List.of_mem_zip hy).1 with q | q
    · exact .inl q
    · exact .inr ⟨q, PySem.W.cellsFrom_some _ _ _ (.inl q)⟩
  refine codeAny_call_function hr.depth (KX _ _ lk) rfl S.co S.gen rfl (PySem.W.codeRec_of KX hcd) (hb _ _ _ _ ?_)
  refine wpAny_newFunctionEnv_cells S.kind hkind fun env he s1 x => ?_
  subst he
  refine ⟨lim.keeps x.toInCall.keep, codeAny_func ?_⟩
  obtain ⟨t, ht, hq⟩ := hbody A outer s H vs Q E (hr.deeper _) hsp
  have I : Inv (cxOf CX P w K mg base N qual scope f cdv A outer s H E) [] (start N vs) H s1 := inv_start S hr.hd e0 hl r x
  refine wpAny_mono (ht [] s1 (start N vs) H _ I hq) (fun fl s' hs => ?_) fun e s' hs => hs
  have fin : ∀ {σ' : St} {H' : Hp} {v : V} {u : Value}, Inv (cxOf CX P w K mg base N qual scope f cdv A outer s H E) [] σ' H' s' → RelV v u → Q v H' → CE outer P w H s Q u s' :=
    fun {σ' H' v u} J rv q => ⟨v, H', J.os, J.bare, J.base, J.hok, rv, q⟩
  cases fl with
  | ret u =>
    obtain ⟨v, σ', H', J, rv, q⟩ := hs
    exact fin J rv q
  | next =>
    obtain ⟨σ', H', J, q⟩ := hs
    exact fin (v := V.non) (u := Value.none) J rfl q
  | brk =>
    obtain ⟨_, _, _, q⟩ := hs
    exact False.elim q
  | cont =>
    obtain ⟨_, _, _, q⟩ := hs
    exact False.elim q
end L2
namespace L2
open PySem PySem.Spec PyProof.Rows
section
variable {X : Cx} {x : Str} {p pos : Pos} {e : Expr} {es : List Expr} {t : TA} {id T : String} {r : List V → Hp → VK → Prop}
def tCB (r : List V → Hp → VK → Prop) (t : TA) : TE := fun σ H Q => t σ H fun vs H1 => r vs H1 Q
theorem pe_callB (hc : CallR X (.builtin id) r) (hg : Gl X x) (hm : X.mg x = none) (hv : bootBuiltins x = some (.builtin id)) (ha : PA X (e :: es) t) (hn : x ≠ "__name__" := by decide) (hdb : (x == ("__debug__" : Str)) = false := by decide)
    (he : starEach (e :: es) X.env = (false, eval e X.env) :: starEach es X.env := by rfl) (hpl : (backTo pos (starEach es X.env)).any (·.1) = false := by rfl) : PE X (.Call (.Name x p) (e :: es) [] pos) (tCB r t) := by
  intro pins s σ H Q I h
  refine wpAny_Call_Name_kw (ld_blt I hg hm hv ?_ hn hdb)
  exact PyProof.Rows.callWith_builtin1 (thn (ha pos pins s σ H _ I h) fun us s1 ⟨vs, H1, I1, r1, q1⟩ => hc pins s1 σ H1 vs us Q I1 r1 q1) he hpl
end
end L2
namespace HT
open PySem PyProof.Rows
section
variable {prog : Program} {w : World} {A : Around} {E : Value → Shared → Prop} {s : Shared}
def sIx (n d : Nat) : Option Int → Nat
  | none => d
  | some v => if v < 0 then (v + (n : Int)).toNat else min v.toNat n
theorem sIx_nat (n d k : Nat) : sIx n d (some (k : Int)) = min k n := by
  show (if (k : Int) < 0 then ((k : Int) + (n : Int)).toNat else min (k : Int).toNat n) = min k n
  rw [if_neg (by omega), Int.toNat_natCast]
end
end HT
namespace L2
open PySem PySem.Spec PyProof.Rows
abbrev TO := St → Hp → (Option Int → Hp → Prop) → Prop
def PO (X : Cx) (e : Option Expr) (t : TO) : Prop :=
  ∀ (pins : List (Addr × Obj)) (s : Shared) (σ : St) (H : Hp) (Q : Option Int → Hp → Prop), Inv X pins σ H s → t σ H Q →
    wpAny (model X.prog X.w) X.A (evalPart e X.env) (fun u s' => ∃ o H', Inv X pins σ H' s' ∧ IsPart u o ∧ Q o H') X.xe s
def tPart (t : TE) : TO := fun σ H Q => t σ H fun x H1 => ∃ i, x = .int i ∧ Q (some i) H1
section
variable {X : Cx} {e : Expr} {te : TE} {lo hi : Option Expr} {tl th : TO} {pos p2 : Pos}
theorem po_some (h : PE X e te) : PO X (some e) (tPart te) := by
  intro pins s σ H Q I hw
  rw [evalPart_some]
  refine thn (h pins s σ H _ I hw) fun u s1 ⟨x, H1, I1, r1, q1⟩ => ?_
  obtain ⟨i, rfl, q⟩ := q1
  obtain ⟨t, rfl⟩ := r1
  exact ⟨some i, H1, I1, .int i t, q⟩
def SlR (X : Cx) (r : V → Option Int → Option Int → Hp → VK → Prop) : Prop :=
  ∀ (pins : List (Addr × Obj)) (s : Shared) (σ : St) (H : Hp) (x : V) (v vl vu : Value) (lo hi : Option Int) (sl : Addr) (Q : VK), Inv X pins σ H s → RelV x v → s.heap.IsSliceOf sl vl vu .none → IsPart vl lo → IsPart vu hi → r x lo hi H Q →
    ∃ T id, typeLookup (.type T) "__getitem__" = pure (some (.builtin id)) ∧ s.TypeIs v T ∧ wpAny (model X.prog X.w) X.A (getItem v (.ref sl)) (EP X pins σ Q) X.xe s
def tSl (r : V → Option Int → Option Int → Hp → VK → Prop) (te : TE) (tl th : TO) : TE := fun σ H Q => te σ H fun x H1 => tl σ H1 fun l H2 => th σ H2 fun u H3 => r x l u H3 Q
theorem pe_slice {r : V → Option Int → Option Int → Hp → VK → Prop} (hr : SlR X r) (he : PE X e te) (hl : PO X lo tl) (hu : PO X hi th) : PE X (.Subscript e (.Slice lo hi none p2) pos) (tSl r te tl th) := by
  intro pins s σ H Q I h
  refine Subscript_ (thn (he pins s σ H _ I h) fun v s1 ⟨x, H1, I1, r1, q1⟩ => ?_)
  refine wpAny_Slice (thn (hl pins s1 σ H1 _ I1 q1) fun vl s2 ⟨l, H2, I2, pl, q2⟩ => thn (hu pins s2 σ H2 _ I2 q2) fun vu s3 ⟨u, H3, I3, pu, q3⟩ => ?_)
  rw [evalPart_none]
  refine wpAny_pure ?_
  have I4 : Inv X pins σ H3 { s3 with heap := s3.heap.push { cls := .type "slice", data := .fields #[vl, vu, .none] } } := I3.kept (t' := s3.toks) fun b ob q => Heap.get?_push_of_some _ q
  obtain ⟨T, id, hT, ht, hg⟩ := hr pins { s3 with heap := s3.heap.push { cls := .type "slice", data := .fields #[vl, vu, .none] } } σ H3 x v vl vu l u s3.heap.objs.size Q I4 r1 (Heap.IsSliceOf.new ..) pl pu q3
  show wpAny (model X.prog X.w) X.A (subscriptTail e (.Slice lo hi none p2) v (.ref s3.heap.objs.size)) (EP X pins σ Q) X.xe { s3 with heap := s3.heap.push { cls := .type "slice", data := .fields #[vl, vu, .none] } }
  exact tail_any (ops := [.ref s3.heap.objs.size, v]) ht hT hg (by with_unfolding_all rfl)
def cutV (xs : List V) (lo hi : Option Int) : List V := (xs.drop (HT.sIx xs.length 0 lo)).take (HT.sIx xs.length xs.length hi - HT.sIx xs.length 0 lo)
theorem cutV_length (xs : List V) (lo hi : Option Int) : (cutV xs lo hi).length ≤ xs.length := by
  unfold cutV
  rw [List.length_take, List.length_drop]
  omega
end
end L2
namespace L2
open PySem PySem.Spec PyProof.Rows
def ixN (n : Nat) (i : Int) : Option Nat := if 0 ≤ i then (if i < n then some i.toNat else none) else if -(n : Int) ≤ i then some (i + n).toNat else none
def atI {α : Type} (xs : List α) (i : Int) : Option α := (ixN xs.length i).bind fun j => xs[j]?
theorem ixN_seq {n : Nat} {i : Int} {j : Nat} (h : ixN n i = some j) : seqIndex? i n = some j ∧ j < n ∧ -(n : Int) ≤ i ∧ i < n := by
  unfold ixN at h
  by_cases h0 : 0 ≤ i
  · rw [if_pos h0] at h
    by_cases h1 : i < n
    · rw [if_pos h1] at h
      have e : i.toNat = j := Option.some.inj h
      exact ⟨by rw [seqIndex_of h0 h1, e], by omega, by omega, h1⟩
    · rw [if_neg h1] at h; cases h
  · rw [if_neg h0] at h
    by_cases h1 : -(n : Int) ≤ i
    · rw [if_pos h1] at h
      have e : (i + n).toNat = j := Option.some.inj h
      exact ⟨by rw [seqIndex_neg (by omega) h1, e], by omega, h1, by omega⟩
    · rw [if_neg h1] at h; cases h
theorem atI_get {α : Type} {xs : List α} {i : Int} {v : α} (h : atI xs i = some v) : ∃ j, seqIndex? i xs.length = some j ∧ xs[j]? = some v ∧ j < xs.length ∧ -(xs.length : Int) ≤ i ∧ i < xs.length := by
  unfold atI at h
  cases e : ixN xs.length i with
  | none => rw [e] at h; cases h
  | some j =>
    rw [e] at h
    obtain ⟨h1, h2, h3, h4⟩ := ixN_seq e
    exact ⟨j, h1, h, h2, h3, h4⟩
theorem atI_nat {α : Type} {xs : List α} {j : Nat} {v : α} (h : xs[j]? = some v) : atI xs (j : Int) = some v := by
  have hj : j < xs.length := (List.getElem?_eq_some_iff.mp h).1
  have e : ixN xs.length (j : Int) = some j := by
    unfold ixN
    rw [if_pos (by omega), if_pos (by omega)]; simp
  unfold atI; rw [e]; exact h
def PlainIx (b : Expr) : Prop := ∀ o i, subscripted b false o i = operate [o, i] (getItem o i)
def IxR (X : Cx) (r : R2) : Prop :=
  ∀ (value slice : Expr) (pins : List (Addr × Obj)) (s : Shared) (σ : St) (H : Hp) (x y : V) (v u : Value) (Q : VK), Inv X pins σ H s → RelV x v → RelV y u → r x y H Q →
    subscripted slice false v u = operate [v, u] (getItem v u) → wpAny (model X.prog X.w) X.A (subscriptTail value slice v u) (EP X pins σ Q) X.xe s
def MtR (X : Cx) (id : String) (r : V → List V → Hp → VK → Prop) : Prop :=
  ∀ (pins : List (Addr × Obj)) (s : Shared) (σ : St) (H : Hp) (x : V) (xs : List V) (v : Value) (us : List Value) (Q : VK), Inv X pins σ H s → RelV x v → Vals xs us → r x xs H Q →
    wpAny (model X.prog X.w) X.A (call (.builtin id) (v :: us)) (EP X pins σ Q) X.xe s
section
variable {X : Cx} {a b : Expr} {ta tb : TE} {pos : Pos}
theorem pe_ix {r : R2} (hr : IxR X r) (ha : PE X a ta) (hb : PE X b tb) (hs : PlainIx b) : PE X (.Subscript a b pos) (tOp r ta tb) := by
  intro pins s σ H Q I h
  exact Subscript_ (binT ha hb I h fun v u s2 x y H2 I2 rx ry q => hr a b pins s2 σ H2 x y v u Q I2 rx ry q (hs _ _))
def rIxL (K : PySem.W.Frag) : R2 := fun x y H Q => ∃ p xs i v, x = .ref p ∧ y = .int i ∧ SqL K H p xs ∧ atI xs i = some v ∧ Q v H
def rIxT (K : PySem.W.Frag) : R2 := fun x y H Q => ∃ p xs i v, x = .ref p ∧ y = .int i ∧ SqT K H p xs ∧ atI xs i = some v ∧ Q v H
theorem ix_list : IxR X (rIxL X.K) := by
  intro value slice pins s σ H x y v u Q I rx ry h hs
  obtain ⟨p, xs, i, z, rfl, rfl, hq, he, q⟩ := h
  cases rx
  obtain ⟨t, rfl⟩ := ry
  obtain ⟨its, r, pl, hz⟩ := I.list hq
  obtain ⟨j, h1, h2, h3, h4, h5⟩ := atI_get he
  obtain ⟨w, ew, rw'⟩ := r.get h2
  have hl := r.length
  have hn := line63
  have fin : EP X pins σ Q w s := ⟨z, H, I, rw', q⟩
  by_cases h0 : 0 ≤ i
  · have hj : i.toNat = j := by
      rw [seqIndex_of h0 h5] at h1
      exact Option.some.inj h1
    exact item_listR pl.isList h0 (by omega) (by rw [hj]; simpa using ew) fin hs
  · have hj : (i + (its.toArray.size : Int)).toNat = j := by
      rw [seqIndex_neg (by omega) h4] at h1
      rw [List.size_toArray, ← hl]
      exact Option.some.inj h1
    exact subscriptTail_builtinR (x := w) pl.isList.typeIs slot_list_getitem.lookup
      (wpAny_getItem_list_neg (Q := fun r s' => r = w ∧ EP X pins σ Q r s') pl.isList (by omega) (by rw [List.size_toArray] <;> omega) (by omega) (by rw [hj]; simpa using ew) ⟨rfl, fin⟩) hs
theorem ix_tup : IxR X (rIxT X.K) := by
  intro value slice pins s σ H x y v u Q I rx ry h hs
  obtain ⟨p, xs, i, z, rfl, rfl, hq, he, q⟩ := h
  cases rx
  obtain ⟨t, rfl⟩ := ry
  obtain ⟨its, r, pl, hz⟩ := I.tuple hq
  obtain ⟨j, h1, h2, h3, h4, h5⟩ := atI_get he
  obtain ⟨w, ew, rw'⟩ := r.get h2
  have hl := r.length
  have hn := line63
  have fin : EP X pins σ Q w s := ⟨z, H, I, rw', q⟩
  exact subscriptTail_builtinR (x := w) pl.typeIs slot_tuple_getitem.lookup
    (getItem_tuple (j := j) (Q := fun r s' => r = w ∧ EP X pins σ Q r s') pl (by omega) (by omega) (by rw [List.size_toArray, ← hl]; exact h1) (by simpa using ew) ⟨rfl, fin⟩) hs
theorem slice_bounds (lo hi : Option Int) (n : Nat) : (sliceBounds lo hi none n).1 = ((HT.sIx n 0 lo : Nat) : Int) ∧ (sliceBounds lo hi none n).2.1 = ((HT.sIx n n hi : Nat) : Int) ∧ (sliceBounds lo hi none n).2.2 = 1 := by
  refine ⟨?_, ?_, rfl⟩
  · cases lo with
    | none => simp [sliceBounds, HT.sIx]
    | some i =>
      simp only [sliceBounds, HT.sIx, Option.getD_none, show (1 : Int) > 0 by decide, if_true]
      by_cases h : i < 0
      · simp only [h, if_true] <;> omega
      · simp only [h, if_false] <;> omega
  · cases hi with
    | none => simp [sliceBounds, HT.sIx]
    | some i =>
      simp only [sliceBounds, HT.sIx, Option.getD_none, show (1 : Int) > 0 by decide, if_true]
      by_cases h : i < 0
      · simp only [h, if_true] <;> omega
      · simp only [h, if_false] <;> omega
theorem slicePick_cut (its : List Value) (lo hi : Option Int) : slicePick its.toArray lo hi none = ((its.drop (HT.sIx its.length 0 lo)).take (HT.sIx its.length its.length hi - HT.sIx its.length 0 lo)).toArray := by
  obtain ⟨h1, h2, h3⟩ := slice_bounds lo hi its.toArray.size
  unfold slicePick
  rw [h1, h2, h3]
  simp only [sliceRange_one, pick_run, List.size_toArray] <;> rfl
def rSlL (K : PySem.W.Frag) : V → Option Int → Option Int → Hp → VK → Prop := fun x lo hi H Q => ∃ a xs, x = .ref a ∧ SqL K H a xs ∧ ∀ p, H p = none → Q (.ref p) (upd H p (.lst (cutV xs lo hi)))
theorem sl_list : SlR X (rSlL X.K) := by
  intro pins s σ H x v vl vu lo hi sl Q I rx hs pl pu h
  obtain ⟨a, xs, rfl, hx, q⟩ := h
  cases rx
  obtain ⟨its, r, ht, hz⟩ := I.list hx
  have hlen := r.length
  refine ⟨"list", _, slot_list_getitem.lookup, ht.isList.typeIs, ?_⟩
  refine wpAny_getItem_list_slice ht.isList hs pl pu .none (by simp) ?_ (by rw [List.size_toArray] <;> omega)
  rw [slicePick_cut, ← hlen]
  refine ⟨.ref s.heap.objs.size, _, I.laid (t' := s.toks) (o := .lst (cutV xs lo hi)) (fun b ob q => Heap.get?_push_of_some _ q) (Nat.le_refl _) ?_, rfl, q _ (I.hok.fresh (Nat.le_refl _))⟩
  exact ⟨Nat.le_trans (cutV_length xs lo hi) hz, _, 0, (r.drop (HT.sIx xs.length 0 lo)).take (HT.sIx xs.length xs.length hi - HT.sIx xs.length 0 lo), Heap.get?_push_size _ rfl⟩
theorem call_len_seq : CallR X (.builtin "len") (fun xs H Q => ∃ p ys, xs = [.ref p] ∧ (SqL X.K H p ys ∨ SqT X.K H p ys) ∧ Q (.int ys.length) H) := by
  intro pins s σ H xs us Q I r h
  obtain ⟨p, ys, rfl, hq, q⟩ := h
  obtain ⟨u, rfl, rx⟩ := vals1 r
  cases rx
  have hn := line63
  rcases hq with hq | hq
  · obtain ⟨its, r', pl, hz⟩ := I.list hq
    have hlen := r'.length
    exact Calls.call_len_list pl.isList (by simp only [List.size_toArray] <;> omega) ⟨.int ys.length, H, I.tok _, ⟨s.toks + 1, by rw [List.size_toArray, hlen]⟩, q⟩
  · obtain ⟨its, r', pl, hz⟩ := I.tuple hq
    have hlen := r'.length
    exact len_tuple pl (by simp only [List.size_toArray] <;> omega) ⟨.int ys.length, H, I.tok _, ⟨s.toks + 1, by rw [List.size_toArray, hlen]⟩, q⟩
def tyV (K : PySem.W.Frag) (T : String) (x : V) (H : Hp) : Prop := match x with
  | .str _ => T = "str"
  | .int _ => T = "int"
  | .ref p => (T = "list" ∧ ∃ xs, SqL K H p xs) ∨ (T = "tuple" ∧ ∃ o, K.lookup p = some o ∧ o.cls = .type "tuple" ∧ o.dict = none) ∨
      (T = "dict" ∧ ((∃ kvs, H p = some (.dK kvs)) ∨ ∃ kvs, H p = some (.dT kvs))) ∨ (T = "set" ∧ ∃ S n, H p = some (.set S n))
  | _ => False
theorem tyV_is {pins : List (Addr × Obj)} {σ : St} {H : Hp} {s : Shared} {T : String} {x : V} {v : Value} (I : Inv X pins σ H s) (r : RelV x v) (ty : tyV X.K T x H) :
    s.TypeIs v T ∧ ∀ a, v = .ref a → ∃ ob, s.heap.get? a = some ob ∧ ob.dict = none := by
  cases x with
  | str z =>
    obtain ⟨t, rfl⟩ := r
    cases (show T = "str" from ty)
    exact ⟨typeIs_str s z t, fun _ e => nomatch e⟩
  | int i =>
    obtain ⟨t, rfl⟩ := r
    cases (show T = "int" from ty)
    exact ⟨typeIs_int s i t, fun _ e => nomatch e⟩
  | ref p =>
    cases r
    rcases ty with ⟨rfl, xs, hq⟩ | ⟨rfl, o, hk, hc, hd⟩ | ⟨rfl, hk⟩ | ⟨rfl, S, n, hk⟩
    · obtain ⟨its, _, pl, _⟩ := I.list hq
      refine ⟨pl.isList.typeIs, fun a e => ?_⟩
      cases e
      obtain ⟨o, n, e, c, hd, _⟩ := pl
      exact ⟨o, e, hd⟩
    · refine ⟨⟨o, I.kIn p o hk, hc⟩, fun a e => ?_⟩
      cases e
      exact ⟨o, I.kIn _ o hk, hd⟩
    · have z : ∃ o, s.heap.get? p = some o ∧ o.ExactDict := by
        rcases hk with ⟨kvs, hk⟩ | ⟨kvs, hk⟩
        · obtain ⟨_, _, _, _, o, _, _, e, ex, _⟩ := I.hok p _ hk
          exact ⟨o, e, ex⟩
        · obtain ⟨_, _, _, _, o, _, _, e, ex, _⟩ := I.hok p _ hk
          exact ⟨o, e, ex⟩
      obtain ⟨o, e, ex⟩ := z
      refine ⟨⟨o, e, ex.1⟩, fun a e2 => ?_⟩
      cases e2
      exact ⟨o, e, ex.2.1⟩
    · obtain ⟨o, _, _, _, e, ex, _⟩ := I.hok p _ hk
      refine ⟨⟨o, e, ex.1⟩, fun a e2 => ?_⟩
      cases e2
      exact ⟨o, e, ex.2.1⟩
  | _ => exact False.elim ty
variable {o e : Expr} {es : List Expr} {to : TE} {t : TA} {name : Str} {apos cpos : Pos} {T id : String} {r : V → List V → Hp → VK → Prop}
end
end L2
namespace L2
open PySem PySem.Spec PyProof.Rows
def MtM (X : Cx) (id : String) (r : V → List V → Hp → VK → Prop) : Prop :=
  ∀ (pins : List (Addr × Obj)) (s : Shared) (σ : St) (H : Hp) (x : V) (xs : List V) (v : Value) (us : List Value) (Q : VK), Inv X pins σ H s → RelV x v → Vals xs us → r x xs H Q →
    wpAny (model X.prog X.w) X.A (call (.builtin id) (v :: us)) (EP X pins σ Q) X.xe s
theorem Vals.one : ∀ {x : V} {us : List Value}, Vals [x] us → ∃ u, us = [u] ∧ RelV x u
  | _, _, .cons r .nil => ⟨_, rfl, r⟩
theorem Vals.zero : ∀ {us : List Value}, Vals [] us → us = []
  | _, .nil => rfl
theorem Vals.dropLast {xs : List V} {us : List Value} (h : Vals xs us) : Vals xs.dropLast us.dropLast := by
  induction h with
  | nil => exact .nil
  | cons r t ih =>
    cases t with
    | nil => exact .nil
    | cons q t' => exact .cons r ih
theorem Vals.eraseIdx : ∀ {xs : List V} {us : List Value} (i : Nat), Vals xs us → Vals (xs.eraseIdx i) (us.eraseIdx i)
  | _, _, _, .nil => .nil
  | _, _, 0, .cons _ t => t
  | _, _, i + 1, .cons r t => .cons r (Vals.eraseIdx i t)
theorem erase_last {α : Type} (l : List α) : l.eraseIdx (l.length - 1) = l.dropLast := by
  induction l with
  | nil => rfl
  | cons a r ih =>
    cases r with
    | nil => rfl
    | cons b r =>
      have e : (a :: b :: r).length - 1 = ((b :: r).length - 1) + 1 := by
        have h1 : (a :: b :: r).length = r.length + 2 := rfl
        have h2 : (b :: r).length = r.length + 1 := rfl
        omega
      rw [e, List.eraseIdx_cons_succ, ih]
      all_goals rfl
theorem len_erase {α : Type} : ∀ (l : List α) (i : Nat), (l.eraseIdx i).length ≤ l.length
  | [], _ => Nat.le_refl _
  | _ :: _, 0 => Nat.le_succ _
  | _ :: r, i + 1 => Nat.succ_le_succ (len_erase r i)
section
variable {X : Cx} {pins : List (Addr × Obj)} {σ : St} {H : Hp} {s : Shared} {l b : Addr} {xs ys zs : List V}
theorem Inv.lset {its its' : List Value} {n : Nat} {f : Array Value → Array Value} {t' : Nat} (I : Inv X pins σ H s) (hH : H l = some (.lst xs))
    (e : s.heap.get? l = some { cls := .type "list", data := .seq its.toArray n }) (hf : f its.toArray = its'.toArray) (hv : Vals ys its') (hz : ys.length ≤ sizeLine) :
    Inv X pins σ (upd H l (.lst ys)) { s with heap := s.heap.update l (Obj.mapSeq f), toks := t' } := by
  have q := PySem.IsL.update e f
  rw [hf] at q
  refine I.write (x := l) (e := l) (by rw [hH]; exact trivial) (.inl rfl) (fun b' u hb hu => (Heap.get?_update_other s.heap (Obj.mapSeq f) (Ne.symm hb)).trans hu) ⟨_, q⟩ ?_
  exact ⟨hz, its', _, hv, q⟩
theorem Inv.lstM (I : Inv X pins σ H s) (hH : H l = some (.lst xs)) : xs.length ≤ sizeLine ∧ ∃ (its : List Value) (n : Nat), Vals xs its ∧ xs.length = its.length ∧ s.heap.get? l = some { cls := .type "list", data := .seq its.toArray n } := by
  obtain ⟨z, its, n, r, e⟩ := I.hok l _ hH
  exact ⟨z, its, n, r, r.length, e⟩
theorem notLongL {n : Nat} (h : n ≤ sizeLine) : Builtin.List.listTooLong n = false := by
  unfold Builtin.List.listTooLong
  exact decide_eq_false (by omega)
end
section
variable {X : Cx}
def rAppend : V → List V → Hp → VK → Prop := fun x vs H Q => ∃ l xs y, x = .ref l ∧ vs = [y] ∧ H l = some (.lst xs) ∧ xs.length < sizeLine ∧ Q .non (upd H l (.lst (xs ++ [y])))
theorem mt_append : MtM X "list.append" rAppend := by
  intro pins s σ H x vs v us Q I rx rv h
  obtain ⟨l, xs, y, rfl, rfl, hH, hz, q⟩ := h
  cases rx
  obtain ⟨u, rfl, ru⟩ := rv.one
  obtain ⟨z, its, n, r, hl, e⟩ := I.lstM hH
  refine call_meets F.slot_list_append ⟨_, e, rfl⟩ F.entry_list_append (F.args_list_append_2 _ _) (PySem.list_append l its.toArray n u (by rw [List.size_toArray]; omega)) ⟨e, ?_⟩
  refine ⟨.non, _, I.lset (its' := its ++ [u]) hH e (by simp) (r.append (.cons ru .nil)) ?_, rfl, q⟩
  rw [List.length_append, List.length_singleton]
  omega
def rExtend : V → List V → Hp → VK → Prop := fun x vs H Q => ∃ l b xs zs, x = .ref l ∧ vs = [.ref b] ∧ H l = some (.lst xs) ∧ H b = some (.lst zs) ∧ xs.length + zs.length ≤ sizeLine ∧ Q .non (upd H l (.lst (xs ++ zs)))
theorem mt_extend : MtM X "list.extend" rExtend := by
  intro pins s σ H x vs v us Q I rx rv h
  obtain ⟨l, b, xs, zs, rfl, rfl, hH, hB, hz, q⟩ := h
  cases rx
  obtain ⟨u, rfl, ru⟩ := rv.one
  cases ru
  obtain ⟨z, its, n, r, hl, e⟩ := I.lstM hH
  obtain ⟨z2, its2, n2, r2, hl2, e2⟩ := I.lstM hB
  have hsz : its.toArray.size + its2.toArray.size ≤ sizeLine := by rw [List.size_toArray, List.size_toArray]; omega
  have hlong : ¬ (!its.toArray.isEmpty && Builtin.List.listTooLong (its.toArray.size + its2.toArray.size)) = true := by
    rw [notLongL hsz, Bool.and_false]
    exact Bool.false_ne_true
  refine call_meets F.slot_list_extend ⟨_, e, rfl⟩ F.entry_list_extend (F.args_list_extend_2 _ _)
    (AutoSeq1.list_extend_list_list_0 l its.toArray n b its2.toArray n2 hlong (by rw [List.size_toArray]; omega) (by omega)) ⟨e, e2, ?_⟩
  refine ⟨.non, _, I.lset (its' := its ++ its2) hH e (by simp) (r.append r2) ?_, rfl, q⟩
  rw [List.length_append]
  omega
def rPop : V → List V → Hp → VK → Prop := fun x vs H Q => ∃ l xs y, x = .ref l ∧ vs = [] ∧ H l = some (.lst xs) ∧ xs[xs.length - 1]? = some y ∧ Q y (upd H l (.lst xs.dropLast))
theorem mt_pop : MtM X "list.pop" rPop := by
  intro pins s σ H x vs v us Q I rx rv h
  obtain ⟨l, xs, y, rfl, rfl, hH, hy, q⟩ := h
  cases rx
  have hus := rv.zero
  subst hus
  obtain ⟨z, its, n, r, hl, e⟩ := I.lstM hH
  obtain ⟨u, hu, ru⟩ := r.get hy
  have hy' : its.toArray[its.toArray.size - 1]? = some u := by
    show its.toArray[its.length - 1]? = some u
    rw [← Array.getElem?_toList, ← hl]
    exact hu
  refine call_meets F.slot_list_pop ⟨_, e, rfl⟩ F.entry_list_pop (F.args_list_pop_1 _) (MeetsSeq.list_pop_last l its.toArray n u hy' (by rw [List.size_toArray]; omega)) ⟨e, ?_⟩
  refine ⟨y, _, I.lset (its' := its.dropLast) hH e ?_ r.dropLast ?_, ru, q⟩
  · show its.toArray.eraseIdxIfInBounds (its.toArray.size - 1) = its.dropLast.toArray
    rw [List.size_toArray, List.eraseIdxIfInBounds_toArray, erase_last]
  · rw [List.length_dropLast]
    omega
def rPopAt : V → List V → Hp → VK → Prop := fun x vs H Q => ∃ l xs i k y, x = .ref l ∧ vs = [.int i] ∧ H l = some (.lst xs) ∧ -(2 ^ 63) ≤ i ∧ i < 2 ^ 63 ∧ seqIndex? i xs.length = some k ∧ xs[k]? = some y ∧ Q y (upd H l (.lst (xs.eraseIdx k)))
theorem mt_popAt : MtM X "list.pop" rPopAt := by
  intro pins s σ H x vs v us Q I rx rv h
  obtain ⟨l, xs, i, k, y, rfl, rfl, hH, h1, h2, hk, hy, q⟩ := h
  cases rx
  obtain ⟨u, rfl, ru⟩ := rv.one
  obtain ⟨t, rfl⟩ := ru
  obtain ⟨z, its, n, r, hl, e⟩ := I.lstM hH
  obtain ⟨w, hw, rw'⟩ := r.get hy
  refine call_meets F.slot_list_pop ⟨_, e, rfl⟩ F.entry_list_pop (F.args_list_pop_2 _ _)
    (MeetsSeq.list_pop_at l its.toArray n i t k w (fitsIndex_both h1 h2) (by rw [List.size_toArray, ← hl]; exact hk) (by rw [← Array.getElem?_toList]; exact hw) (by rw [List.size_toArray]; omega)) ⟨e, ?_⟩
  refine ⟨y, _, I.lset (its' := its.eraseIdx k) hH e ?_ (r.eraseIdx k) ?_, rw', q⟩
  · show its.toArray.eraseIdxIfInBounds k = (its.eraseIdx k).toArray
    rw [List.eraseIdxIfInBounds_toArray]
  · have := len_erase xs k
    omega
end
end L2
namespace L2
open PySem PySem.Spec PyProof.Rows
theorem Vals.ints : ∀ {ns : List Int} {us : List Value}, Vals (ns.map V.int) us → IntsAre us ns
  | [], us, h => by
    rw [List.map_nil] at h
    cases h
    exact IntsAre.nil
  | n :: ns, us, h => by
    rw [List.map_cons] at h
    cases h with
    | cons r t =>
      obtain ⟨k, rfl⟩ := r
      exact IntsAre.cons n k (Vals.ints t)
theorem Vals.ref1 {a : Addr} {us : List Value} (r : Vals [V.ref a] us) : us = [Value.ref a] := by
  cases r with
  | cons r t =>
    cases t
    cases r
    rfl
section
variable {prog : Program} {w : World} {A : Around} {E : Value → Shared → Prop} {s : Shared} {l : Addr} {its : List Value} {ns : List Int} {Q : Value → Shared → Prop}
theorem sum_raw (hh : A.handled = none) (hl : s.heap.IsList l its.toArray) (hi : IntsAre its ns)
    (h : ∀ h' tk t', (∀ b o, s.heap.get? b = some o → h'.get? b = some o) → Q (.int ns.sum t') { s with heap := h', toks := tk }) : wpAny (model prog w) A (call (.builtin "sum") [.ref l]) Q E s := by
  obtain ⟨xs, e⟩ := hi.allInts.items
  have hn : numsOf (intItems xs).toList = ns := by rw [← e]; exact hi.numsOf
  rw [nums_intItems] at hn
  rw [e] at hl
  refine PySem.sum_intListG hh hl fun h' tk t' hk => ?_
  have := h h' tk t' hk
  rw [preSum_eq, List.take_of_length_le (by simp), hn]; exact this
end
section
variable {X : Cx}
def rSum (K : PySem.W.Frag) : List V → Hp → VK → Prop := fun vs H Q => ∃ (a : Addr) (ns : List Int), vs = [V.ref a] ∧ SqL K H a (ns.map V.int) ∧ Q (.int ns.sum) H
theorem cr_sum (hc : X.calm = true) : CallR X (.builtin "sum") (rSum X.K) := by
  intro pins s σ H vs us Q I r h
  obtain ⟨a, ns, rfl, hs, q⟩ := h
  obtain ⟨its, rv, hl, _⟩ := I.list hs
  rw [Vals.ref1 r]
  exact sum_raw (I.ok.hd hc) hl.isList rv.ints fun h' tk t' hk => ⟨.int _, H, I.kept hk, ⟨_, rfl⟩, q⟩
end
end L2
namespace L2
open PySem PySem.Spec PyProof.Rows
abbrev CellAt (h : Heap) (c : Addr) (v : Option Value) : Prop := h.IsCell c v
def relS (scope sc : Scope) : Scope :=
  { scope with names := scope.names.map fun (n, k) => if (k == .free && sc.kind == .function && sc.names.lookup n == some .cell) then (n, .cell) else (n, k) }
def cloFrom (cells : List (Str × Addr)) : List (Str × NameKind) → List (Str × Addr) → List (Str × Addr)
  | [], acc => acc
  | (n, k) :: r, acc => if k == .free then cloFrom cells r ((n, (cells.lookup n).getD 0) :: acc) else cloFrom cells r acc
theorem closure_loop (env : Env) (f : Str × NameKind → List (Str × Addr) → Sem (ForInStep (List (Str × Addr))))
    (hf : ∀ n k c, f (n, k) c = if k == .free then (do let a ← cellOf env n; pure (.yield ((n, a) :: c))) else pure (.yield c)) :
    ∀ (names : List (Str × NameKind)) (acc : List (Str × Addr)), (∀ y ∈ names, y.2 = .free → ∃ c, env.cells.lookup y.1 = some c) → forIn names acc f = pure (cloFrom env.cells names acc)
  | [], acc, _ => by rw [List.forIn_nil]; rfl
  | (n, k) :: r, acc, h => by
    rw [List.forIn_cons, hf]
    have ih := fun acc => closure_loop env f hf r acc fun y hy => h y (List.mem_cons_of_mem _ hy)
    unfold cloFrom
    by_cases hk : (k == NameKind.free) = true
    · rw [if_pos hk, if_pos hk]
      obtain ⟨c, hc⟩ := h (n, k) List.mem_cons_self (by simpa using hk)
      have e : cellOf env n = pure c := by unfold cellOf; rw [hc]
      rw [e]
      have e2 : (env.cells.lookup n).getD 0 = c := by rw [hc]; rfl
      rw [e2]
      exact ih _
    · rw [if_neg hk, if_neg hk]
      exact ih _
theorem closure_ok {scope : Scope} {env : Env} (h : ∀ y ∈ scope.names, y.2 = .free → ∃ c, env.cells.lookup y.1 = some c) : closureFor scope env = pure (cloFrom env.cells scope.names []) := by
  simp only [closureFor]
  rw [closure_loop env _ (fun n k c => rfl) scope.names [] h]
  rfl
theorem mem_lookup {α : Type} : ∀ {l : List (Str × α)} {n : Str} {c : α}, (n, c) ∈ l → ∃ c', l.lookup n = some c'
  | (k, v) :: r, n, c, h => by
    rw [List.lookup_cons]
    cases hb : n == k with
    | true => exact ⟨_, rfl⟩
    | false =>
      rcases List.mem_cons.mp h with e | h
      · cases e; simp at hb
      · exact mem_lookup h
theorem cloFrom_mem {cells : List (Str × Addr)} : ∀ {names : List (Str × NameKind)} {acc : List (Str × Addr)} {n : Str} {c : Addr}, (n, c) ∈ cloFrom cells names acc → (n, c) ∈ acc ∨ ((n, .free) ∈ names ∧ c = (cells.lookup n).getD 0)
  | [], _, _, _, h => .inl h
  | (m, k) :: r, acc, n, c, h => by
    unfold cloFrom at h
    split at h
    · rename_i hk
      have hk : k = .free := by simpa using hk
      rcases cloFrom_mem h with h | ⟨h1, h2⟩
      · rcases List.mem_cons.mp h with e | h
        · cases e; exact .inr ⟨hk ▸ List.mem_cons_self, rfl⟩
        · exact .inl h
      · exact .inr ⟨List.mem_cons_of_mem _ h1, h2⟩
    · rcases cloFrom_mem h with h | ⟨h1, h2⟩
      · exact .inl h
      · exact .inr ⟨List.mem_cons_of_mem _ h1, h2⟩
theorem cloFrom_acc {cells : List (Str × Addr)} : ∀ {names : List (Str × NameKind)} {acc : List (Str × Addr)} {p : Str × Addr}, p ∈ acc → p ∈ cloFrom cells names acc
  | [], _, _, h => h
  | (m, k) :: r, acc, p, h => by
    unfold cloFrom
    split
    · exact cloFrom_acc (List.mem_cons_of_mem _ h)
    · exact cloFrom_acc h
theorem cloFrom_has {cells : List (Str × Addr)} : ∀ {names : List (Str × NameKind)} {acc : List (Str × Addr)} {n : Str}, (n, .free) ∈ names → (n, (cells.lookup n).getD 0) ∈ cloFrom cells names acc
  | (m, k) :: r, acc, n, h => by
    unfold cloFrom
    rcases List.mem_cons.mp h with e | h
    · cases e
      exact cloFrom_acc List.mem_cons_self
    · split
      · exact cloFrom_has h
      · exact cloFrom_has h
theorem cells_mem : ∀ {names : List (Str × NameKind)} {h : Heap} {acc : List (Str × Addr)} {x : Str} {c : Addr}, (x, c) ∈ cellsFrom h.objs.size names acc →
    (x, c) ∈ acc ∨ ((x, .cell) ∈ names ∧ h.objs.size ≤ c ∧ CellAt (pushCells h names) c none)
  | [], _, _, _, _, h => .inl h
  | (n, k) :: r, h, acc, x, c, hm => by
    unfold cellsFrom at hm
    unfold pushCells
    split at hm
    · rename_i hk
      rw [if_pos hk]
      have hk : k = .cell := by simpa using hk
      rw [← Heap.size_push h { cls := .type "cell", data := .cell none }] at hm
      rcases cells_mem hm with hm | ⟨h1, h2, h3⟩
      · rcases List.mem_cons.mp hm with e | hm
        · cases e
          exact .inr ⟨hk ▸ List.mem_cons_self, Nat.le_refl _, _, pushCells_keeps r _ _ _ (Heap.get?_push_size _ rfl), rfl⟩
        · exact .inl hm
      · rw [Heap.size_push] at h2
        exact .inr ⟨List.mem_cons_of_mem _ h1, Nat.le_of_succ_le h2, h3⟩
    · rename_i hk
      rw [if_neg hk]
      rcases cells_mem hm with hm | ⟨h1, h2, h3⟩
      · exact .inl hm
      · exact .inr ⟨List.mem_cons_of_mem _ h1, h2, h3⟩
theorem cells_acc : ∀ {names : List (Str × NameKind)} {n : Nat} {acc : List (Str × Addr)} {p : Str × Addr}, p ∈ acc → p ∈ cellsFrom n names acc
  | [], _, _, _, h => h
  | (m, k) :: r, n, acc, p, h => by
    unfold cellsFrom
    split
    · exact cells_acc (List.mem_cons_of_mem _ h)
    · exact cells_acc h
theorem cells_has : ∀ {names : List (Str × NameKind)} {n : Nat} {acc : List (Str × Addr)} {x : Str}, (x, .cell) ∈ names → ∃ c, (x, c) ∈ cellsFrom n names acc
  | (m, k) :: r, n, acc, x, h => by
    unfold cellsFrom
    rcases List.mem_cons.mp h with e | h
    · cases e
      exact ⟨n, cells_acc List.mem_cons_self⟩
    · split
      · exact cells_has h
      · exact cells_has h
theorem cells_inj : ∀ {names : List (Str × NameKind)} {h : Heap} {acc : List (Str × Addr)} {x y : Str} {c : Addr}, (∀ p ∈ acc, p.2 < h.objs.size) → (∀ x y c, (x, c) ∈ acc → (y, c) ∈ acc → x = y) →
    (x, c) ∈ cellsFrom h.objs.size names acc → (y, c) ∈ cellsFrom h.objs.size names acc → x = y
  | [], _, _, _, _, _, _, hi, h1, h2 => hi _ _ _ h1 h2
  | (n, k) :: r, h, acc, x, y, c, hl, hi, h1, h2 => by
    unfold cellsFrom at h1 h2
    split at h1
    · rename_i hk
      rw [if_pos hk] at h2
      rw [← Heap.size_push h { cls := .type "cell", data := .cell none }] at h1 h2
      refine cells_inj (h := h.push _) (fun p hp => ?_) (fun x y c a b => ?_) h1 h2
      · rw [Heap.size_push]
        rcases List.mem_cons.mp hp with rfl | hp
        · exact Nat.lt_succ_self _
        · exact Nat.lt_succ_of_lt (hl p hp)
      · rcases List.mem_cons.mp a with e | a <;> rcases List.mem_cons.mp b with e' | b
        · cases e; cases e'; rfl
        · cases e; exact absurd (hl _ b) (Nat.lt_irrefl _)
        · cases e'; exact absurd (hl _ a) (Nat.lt_irrefl _)
        · exact hi _ _ _ a b
    · rename_i hk
      rw [if_neg hk] at h2
      exact cells_inj hl hi h1 h2
theorem newEnv_comp {M : Model} {A : Around} {E : Value → Shared → Prop} {s : Shared} {scope : Scope} {globals : Addr} {closure : List (Str × Addr)} {qual : Str} {func : Option Addr} {code : Value} {around : Env} {builtins : Addr} {Q : Env → Shared → Prop}
    (h : Q (newEnv scope s.heap.objs.size globals (cellsFrom (s.heap.objs.size + 1) scope.names closure) qual func code (some around) builtins)
      { s with heap := pushCells (s.heap.push { cls := .type "dict", data := .dict #[] }) scope.names }) :
    wpAny M A (newFunctionEnv scope globals closure [] qual func code (some around) builtins) Q E s := by
  simp only [newFunctionEnv, Option.isSome_some, if_true]
  refine wpAny_bind (wpAny_alloc ?_)
  refine wpAny_bind (wpAny_layCells _ (fun n k c => rfl) scope.names closure _ _ ?_)
  rw [show ({ s with heap := s.heap.push { cls := .type "dict", data := .dict #[] } } : Shared).heap.objs.size = s.heap.objs.size + 1 from Heap.size_push ..]
  rw [List.forIn_nil]
  exact wpAny_bind (wpAny_pure (wpAny_pure h))
theorem lookup_relS {sc : Scope} : ∀ {names : List (Str × NameKind)} {x : Str} {k : NameKind},
    (names.map fun (n, k) => if (k == NameKind.free && sc.kind == .function && sc.names.lookup n == some .cell) then (n, NameKind.cell) else (n, k)).lookup x = some k →
    ∃ k', names.lookup x = some k' ∧ (k = k' ∨ (k' = .free ∧ k = .cell))
  | [], _, _, h => by simp at h
  | (n, k₀) :: r, x, k, h => by
    have ih := @lookup_relS sc r x k
    have h' : List.lookup x ((if (k₀ == NameKind.free && sc.kind == .function && sc.names.lookup n == some .cell) = true then (n, NameKind.cell) else (n, k₀)) :: (r.map _)) = some k := h
    cases hx : x == n with
    | true =>
      simp only [List.lookup_cons, hx]
      by_cases hc : (k₀ == NameKind.free && sc.kind == .function && sc.names.lookup n == some .cell) = true
      · rw [if_pos hc] at h'
        simp only [List.lookup_cons, hx] at h'
        cases h'
        simp only [Bool.and_eq_true, beq_iff_eq] at hc
        exact ⟨k₀, rfl, .inr ⟨hc.1.1, rfl⟩⟩
      · rw [if_neg hc] at h'
        simp only [List.lookup_cons, hx] at h'
        cases h'
        exact ⟨_, rfl, .inl rfl⟩
    | false =>
      simp only [List.lookup_cons, hx]
      by_cases hc : (k₀ == NameKind.free && sc.kind == .function && sc.names.lookup n == some .cell) = true
      · rw [if_pos hc] at h'
        simp only [List.lookup_cons, hx] at h'
        exact ih h'
      · rw [if_neg hc] at h'
        simp only [List.lookup_cons, hx] at h'
        exact ih h'
structure BlkOk (N : List Str) (sc scope : Scope) (own : List (Str × Nat)) : Prop where
  kind : scope.kind = .function
  uniq : ∀ y ∈ scope.names, scope.names.lookup y.1 = some y.2
  ix : ∀ p ∈ own, N[p.2]? = some p.1
  free : ∀ y ∈ scope.names, y.2 = .free → sc.names.lookup y.1 = some .cell ∨ sc.names.lookup y.1 = some .free
  own : ∀ y ∈ scope.names, y.2 = .local ∨ y.2 = .cell → y.1 ∈ own.map (·.1) ∨ y.1 ∉ N
def wipe (σ : St) : List Nat → St
  | [] => σ
  | v :: vs => (wipe σ vs).set v none
theorem wipe_length (σ : St) : ∀ vs : List Nat, (wipe σ vs).length = σ.length
  | [] => rfl
  | v :: vs => by unfold wipe; rw [List.length_set, wipe_length σ vs]
theorem wipe_some {σ : St} {i : Nat} {x : V} : ∀ {vs : List Nat}, (wipe σ vs)[i]? = some (some x) → σ[i]? = some (some x) ∧ i ∉ vs
  | [], h => ⟨h, by simp⟩
  | v :: vs, h => by
    unfold wipe at h
    by_cases hi : v = i
    · subst hi
      by_cases hv : v < (wipe σ vs).length
      · rw [List.getElem?_set_self hv] at h; cases h
      · rw [List.getElem?_eq_none (by simpa using hv)] at h; cases h
    · rw [List.getElem?_set_ne hi] at h
      obtain ⟨h1, h2⟩ := wipe_some h
      exact ⟨h1, by simp only [List.mem_cons, not_or]; exact ⟨fun e => hi e.symm, h2⟩⟩
abbrev Cx.blk (X : Cx) (s : Shared) (H : Hp) (scope : Scope) (cenv : Env) (fp : List Addr) : Cx := { X with s_0 := s, H_0 := H, env := cenv, outer := X.stack, ex := fp, fn := fun x => scope.names.lookup x == some .cell, pn := [], xe := fun _ _ => False }
section
variable {X : Cx} {pins : List (Addr × Obj)} {σ : St} {H : Hp} {s : Shared}
theorem block_start {scope : Scope} {own : List (Str × Nat)} {fp : List Addr} (I : Inv X pins σ H s) (ok : BlkOk X.N X.env.scope scope own) (hN : X.N.Nodup) (hfp : ∀ b ∈ fp, FpOk X pins H b ∧ b < s.heap.objs.size) :
    Inv (X.blk s H scope (compEnvC scope (cellsFrom (s.heap.objs.size + 1) scope.names (cloFrom X.env.cells scope.names [])) s.heap.objs.size X.env) fp) [] (wipe σ (own.map (·.2))) H { s with heap := pushCells (s.heap.push { cls := .type "dict", data := .dict #[] }) scope.names } := by
  have hfree : ∀ y ∈ scope.names, y.2 = .free → ∃ c, X.env.cells.lookup y.1 = some c := fun y hy e => by
    rcases ok.free y hy e with k | k
    · exact I.ok.has _ (.inl k)
    · exact I.ok.has _ (.inr k)
  generalize hcenv : compEnvC scope (cellsFrom (s.heap.objs.size + 1) scope.names (cloFrom X.env.cells scope.names [])) s.heap.objs.size X.env = cenv
  have kp : ∀ b o, s.heap.get? b = some o → (pushCells (s.heap.push { cls := .type "dict", data := .dict #[] }) scope.names).get? b = some o := fun b o e => pushCells_keeps _ _ _ _ (Heap.get?_push_of_some _ e)
  have hL : cenv.locals = s.heap.objs.size := by rw [← hcenv]; rfl
  have hcl : cenv.cells = cellsFrom (s.heap.objs.size + 1) scope.names (cloFrom X.env.cells scope.names []) := by rw [← hcenv]; rfl
  have hsc : cenv.scope = relS scope X.env.scope := by rw [← hcenv]; rfl
  rw [← Heap.size_push s.heap { cls := .type "dict", data := .dict #[] }] at hcl
  have cm : ∀ {y c}, (y, c) ∈ cloFrom X.env.cells scope.names [] → X.env.cells.lookup y = some c ∧ c < s.heap.objs.size := fun {y c} hm => by
    rcases cloFrom_mem hm with hm | ⟨h1, rfl⟩
    · cases hm
    · obtain ⟨c, hc⟩ := hfree _ h1 rfl
      rw [hc]
      obtain ⟨w, z⟩ := I.cell _ _ hc
      exact ⟨rfl, z.lt⟩
  have mem : ∀ {y c}, cenv.cells.lookup y = some c → (X.env.cells.lookup y = some c ∧ c < s.heap.objs.size) ∨ (s.heap.objs.size + 1 ≤ c ∧ CellAt (pushCells (s.heap.push { cls := .type "dict", data := .dict #[] }) scope.names) c none) := fun {y c} e => by
    rw [hcl] at e
    rcases cells_mem (PySem.mem_of_lookup e) with hm | ⟨_, h2, h3⟩
    · exact .inl (cm hm)
    · rw [Heap.size_push] at h2; exact .inr ⟨h2, h3⟩
  have look : ∀ {y}, scope.names.lookup y = some .free → ∃ c, cenv.cells.lookup y = some c ∧ X.env.cells.lookup y = some c := fun {y} hl => by
    have hy : (y, NameKind.free) ∈ scope.names := PySem.mem_of_lookup hl
    obtain ⟨c', e'⟩ := mem_lookup (cells_acc (names := scope.names) (n := (s.heap.push { cls := .type "dict", data := .dict #[] }).objs.size) (cloFrom_has (cells := X.env.cells) (acc := []) hy))
    rw [← hcl] at e'
    refine ⟨c', e', ?_⟩
    rw [hcl] at e'
    rcases cells_mem (PySem.mem_of_lookup e') with hm | ⟨h1, _, _⟩
    · exact (cm hm).1
    · have := ok.uniq _ h1
      rw [hl] at this; cases this
  have okB : (X.blk s H scope cenv fp).Ok := by
    refine ⟨I.ok.mod, by show cenv.scope.kind = _; rw [hsc]; exact ok.kind, by show cenv.globals = _; rw [← hcenv]; exact I.ok.glob, by show cenv.builtins = _; rw [← hcenv]; exact I.ok.blt, by show s.heap.objs.size ≤ cenv.locals; rw [hL]; exact Nat.le_refl _,
      fun y z c e1 e2 => ?_, fun y hy => ?_, fun y c z e => ?_, I.ok.hd, I.ok.frames, .inl rfl, fun b hb => ⟨?_, fun y c e z => ?_⟩, I.bs, Nat.le_trans I.ok.bsz I.sz, fun b o e hb => ?_, fun b hb z => ?_, I.stack, I.stkFree⟩
    · have e1 : cenv.cells.lookup y = some c := e1
      have e2 : cenv.cells.lookup z = some c := e2
      rw [hcl] at e1 e2
      refine cells_inj (fun p hp => ?_) (fun y z c a b => I.ok.inj y z c (cm a).1 (cm b).1) (PySem.mem_of_lookup e1) (PySem.mem_of_lookup e2)
      rw [Heap.size_push]
      exact Nat.lt_succ_of_lt (cm (y := p.1) (c := p.2) hp).2
    · show ∃ c, cenv.cells.lookup y = some c
      have key : ∀ k, cenv.kindOf y = some k → (k = .cell ∨ k = .free) → ∃ c, cenv.cells.lookup y = some c := fun k hk hk' => by
        unfold Env.kindOf at hk
        rw [hsc] at hk
        obtain ⟨k', e, r⟩ := lookup_relS hk
        have : k' = .cell ∨ k' = .free := by
          rcases r with rfl | ⟨rfl, _⟩
          · exact hk'
          · exact .inr rfl
        rcases this with rfl | rfl
        · obtain ⟨c, hm⟩ := cells_has (n := (s.heap.push { cls := .type "dict", data := .dict #[] }).objs.size) (acc := cloFrom X.env.cells scope.names []) (PySem.mem_of_lookup e)
          obtain ⟨c', e'⟩ := mem_lookup hm
          exact ⟨c', by rw [hcl]; exact e'⟩
        · obtain ⟨c, h1, _⟩ := look e
          exact ⟨c, h1⟩
      rcases hy with hy | hy
      · exact key _ hy (.inl rfl)
      · exact key _ hy (.inr rfl)
    · have z : (scope.names.lookup y == some NameKind.cell) = true := z
      have z : scope.names.lookup y = some .cell := by simpa using z
      have e : cenv.cells.lookup y = some c := e
      rw [hcl] at e
      rcases cells_mem (PySem.mem_of_lookup e) with hm | ⟨_, h2, _⟩
      · rcases cloFrom_mem hm with hm | ⟨h1, _⟩
        · cases hm
        · have q := ok.uniq _ h1
          rw [z] at q; cases q
      · rw [Heap.size_push] at h2
        exact Nat.le_of_succ_le h2
    · show b ≠ cenv.locals
      rw [hL]; exact Nat.ne_of_lt (hfp b hb).2
    · have e : cenv.cells.lookup y = some c := e
      rcases mem e with ⟨h1, _⟩ | ⟨h1, _⟩
      · exact (hfp b hb).1.2.2.2.2.1 y c h1 z
      · have h2 : s.heap.objs.size + 1 ≤ b := by rw [← z]; exact h1
        exact absurd (Nat.lt_of_lt_of_le (hfp b hb).2 (Nat.le_of_succ_le h2)) (Nat.lt_irrefl _)
    · rcases (hfp b hb).1.2.2.2.1 with z | z
      · exact I.ok.noex b o e z
      · exact absurd (Nat.lt_of_lt_of_le (Heap.lt_size e) (Nat.le_trans I.ok.bsz z)) (Nat.lt_irrefl _)
    · rcases List.mem_cons.mp (I.stkSub b z) with z | z
      · exact (hfp b hb).1.2.1 z
      · exact (hfp b hb).1.2.2.1 z
  refine ⟨okB, rfl, I.bare, Un.kept kp, ⟨fun _ => none, ?_, fun i y av e1 e2 e3 => ?_⟩, fun y c e => ?_, ?_, fun y c e => ?_, fun p hp => ?_, I.hok.kept kp, by rw [wipe_length]; exact I.len⟩
  · show Heap.Ns _ cenv.locals _
    rw [hL]
    exact Heap.Ns.keeps (Heap.Ns.new ..) fun b o e => pushCells_keeps _ _ _ _ e
  · obtain ⟨e2, hne⟩ := wipe_some e2
    have hfr : scope.names.lookup y = some .free ∧ (cenv.kindOf y = some .cell ∨ cenv.kindOf y = some .free) := by
      have key : ∀ k, cenv.scope.names.lookup y = some k → k = .local ∨ k = .cell ∨ k = .free → scope.names.lookup y = some .free ∧ (cenv.kindOf y = some .cell ∨ cenv.kindOf y = some .free) := fun k hk hk' => by
        have hk0 := hk
        rw [hsc] at hk
        obtain ⟨k', e, r⟩ := lookup_relS hk
        have no : ¬ (k' = .local ∨ k' = .cell) := fun hh => by
          rcases ok.own _ (PySem.mem_of_lookup e) hh with e' | e'
          · obtain ⟨p, hp, hpy⟩ := List.mem_map.mp e'
            have e3 := ok.ix p hp
            have : p.1 = y := hpy
            rw [this] at e3
            exact hne (List.mem_map.mpr ⟨p, hp, nodup_ix hN e3 e1⟩)
          · exact e' (List.mem_of_getElem? e1)
        rcases r with rfl | ⟨rfl, rfl⟩
        · rcases hk' with rfl | rfl | rfl
          · exact absurd (.inl rfl) no
          · exact absurd (.inr rfl) no
          · exact ⟨e, .inr hk0⟩
        · exact ⟨e, .inl hk0⟩
      have e3 : Vis cenv.scope y := e3
      rcases e3 with e3 | e3 | e3
      · exact key _ e3 (.inl rfl)
      · exact key _ e3 (.inr (.inl rfl))
      · exact key _ e3 (.inr (.inr rfl))
    obtain ⟨m, hn, hl⟩ := I.loc
    have hvis : Vis X.env.scope y := (ok.free _ (PySem.mem_of_lookup hfr.1) rfl).elim (fun k => .inr (.inl k)) (fun k => .inr (.inr k))
    obtain ⟨w, r, q⟩ := hl i y av e1 e2 hvis
    refine ⟨w, r, .inr ⟨hfr.2, ?_⟩⟩
    obtain ⟨c, h1, h2⟩ := look hfr.1
    rcases q with ⟨k, _⟩ | ⟨_, c', e', z⟩
    · have k : X.env.scope.names.lookup y = some .local := k
      rcases ok.free _ (PySem.mem_of_lookup hfr.1) rfl with k' | k' <;> rw [show X.env.scope.names.lookup y = _ from k'] at k <;> cases k
    · rw [h2] at e'; cases e'
      exact ⟨c, h1, z.keeps kp⟩
  · have e : cenv.cells.lookup y = some c := e
    rcases mem e with ⟨h1, _⟩ | ⟨_, z⟩
    · obtain ⟨w, z⟩ := I.cell y c h1
      exact ⟨w, z.keeps kp⟩
    · exact ⟨_, z⟩
  · show H cenv.locals = none
    rw [hL]; exact I.hok.fresh (Nat.le_refl _)
  · have e : cenv.cells.lookup y = some c := e
    rcases mem e with ⟨h1, _⟩ | ⟨h1, _⟩
    · exact I.freeC y c h1
    · exact I.hok.fresh (Nat.le_of_succ_le h1)
  · exact absurd (show p ∈ ([] : List (Addr × Obj)) ++ [] from hp) (by simp)
theorem app_ok {E : Value → Shared → Prop} {D : Addr} {xs : List V} {y : V} {v : Value} {Q : Value → Shared → Prop} (I : Inv X pins σ H s) (hD : H D = some (.lst xs)) (hz : xs.length < sizeLine) (r : RelV y v)
    (h : ∀ s', Inv X pins σ (upd H D (.lst (xs ++ [y]))) s' → Q .none s') : wpAny (model X.prog X.w) X.A (call (.builtin "list.append") [.ref D, v]) Q E s := by
  obtain ⟨hz', its, n, ri, e⟩ := I.hok D _ hD
  have hl := ri.length
  refine append_at (hsz := by rw [List.size_toArray]; omega) e fun h' sb ho' => ?_
  refine h { s with heap := h' } (I.write (t' := s.toks) (by rw [hD]; trivial) (.inl rfl) (fun b u hb q => (sb.2 b hb).trans q) ⟨_, ho'⟩ ⟨by rw [List.length_append]; exact hz, its ++ [v], n + 1, ri.append (.cons r .nil), ?_⟩)
  rw [ho']
  simp
def PTs (X : Cx) (ifs : List Expr) (t : TT) : Prop :=
  ∀ (pins : List (Addr × Obj)) (s : Shared) (σ : St) (H : Hp) (Q : Bool → Hp → Prop), Inv X pins σ H s → t σ H Q →
    wpAny (model X.prog X.w) X.A (forIn ifs true fun c r => if r = true then do let ok ← isTrue c X.env (eval c X.env); pure (ForInStep.yield ok) else pure (ForInStep.yield r)) (TP X pins σ Q) X.xe s
def tYes : TT := fun _ H Q => Q true H
theorem pts_nil : PTs X [] tYes := fun _ _ _ H _ I h => wpAny_tests_nil ⟨H, I, h⟩
end
theorem thnF {α : Type} {t : Sem α} {Q Q' : α → Shared → Prop} {M : Model} {A : Around} {E : Value → Shared → Prop} {s : Shared} (h : wpAny M A t Q (fun _ _ => False) s) (hQ : ∀ a s, Q a s → Q' a s) : wpAny M A t Q' E s := wpAny_mono h hQ fun _ _ z => False.elim z
theorem compLoop_any {prog : Program} {w : World} {A : Around} {R : Result → Shared → Prop} {s : Shared} {elt target iter : Expr} {ifs : List Expr} {scope : Scope} {pos : Pos} {it acc : Value} {env : Env} (I : Nat → Shared → Prop)
    (turn : ∀ n s, I n s → wpAny (model prog w) A (pyNext it) (fun r s₁ => match r with
      | none => R (.ok .next) s₁
      | some v => wpAny (model prog w) A (letOwnedTupleGo target it v) (fun _ s₁' => wpAny (model prog w) A (assign target env v) (fun _ s₂ =>
          wpAny (model prog w) A (forIn ifs true fun c r => if r = true then do let ok ← isTrue c env (eval c env); pure (ForInStep.yield ok) else pure (ForInStep.yield r)) (fun ok s₃ =>
            if ok = true then wpAny (model prog w) A (eval elt env) (fun x s₄ =>
              wpAny (model prog w) A (call (.builtin "list.append") [acc, x]) (fun _ s₅ => ∃ m, m < n ∧ I m s₅) (notedBy (model prog w) A env fun e s' => R (.error e) s') s₄) (notedBy (model prog w) A env fun e s' => R (.error e) s') s₃
            else ∃ m, m < n ∧ I m s₃) (notedBy (model prog w) A env fun e s' => R (.error e) s') s₂) (notedBy (model prog w) A env fun e s' => R (.error e) s') s₁') (notedBy (model prog w) A env fun e s' => R (.error e) s') s₁) (notedBy (model prog w) A env fun e s' => R (.error e) s') s)
    (n : Nat) (h : I n s) :
    codeAny (model prog w) A (.compLoop (.ListComp elt [⟨target, iter, ifs, 0⟩] scope pos) 0 it acc env) R s := by
  refine codeAny_loop rfl I (fun n s hI => ?_) n h
  show wpAny _ A ((compTurn (.ListComp elt [⟨target, iter, ifs, 0⟩] scope pos) 0 it acc env).onRaise (fun x => do noteFrame x env; theTreesLotGoes x)) _ _ s
  refine wpAny_noted ?_
  rw [compTurn_list]
  refine wpAny_bind (wpAny_standAt (wpAny_bind (wpAny_mono (turn n s hI) (fun r s₁ h₁ => ?_) fun _ _ h' => h')))
  cases r with
  | none => exact wpAny_pure h₁
  | some v =>
    refine wpAny_bind (wpAny_mono h₁ (fun _ s₁' h₁' => ?_) fun _ _ h' => h')
    refine wpAny_bind (wpAny_mono h₁' (fun _ s₂ h₂ => wpAny_bind (wpAny_mono h₂ (fun ok s₃ h₃ => ?_) fun _ _ h' => h')) fun _ _ h' => h')
    cases ok with
    | false => exact wpAny_pure ⟨rfl, h₃⟩
    | true =>
      exact wpAny_bind (wpAny_bind (wpAny_mono h₃ (fun x s₄ h₄ => wpAny_bind (wpAny_mono h₄ (fun _ s₅ h₅ => wpAny_pure (wpAny_pure ⟨rfl, h₅⟩)) fun _ _ h' => h')) fun _ _ h' => h'))
section
variable {X : Cx}
def tLc (wi : TI) (g : TG) (tt : TT) (te : TE) (vs : List Nat) : TE := fun σ H Q => wi σ H fun J H1 => ∀ D, H1 D = none → ∃ W : Nat → Nat → Hp → Prop, (∃ m, W 0 m (upd H1 D (.lst []))) ∧ ∀ i m H, W i m H →
  (J.stop i H ∧ Q (.ref D) H) ∨ (J.go i H ∧ ∃ Nx : Hp → Prop, (∀ H', Nx H' → ∃ m', m' < m ∧ W (i + 1) m' H') ∧ ∀ x H', J.yld i H x H' → g x (wipe σ vs) H' fun σ2 H2 => wipe σ2 vs = wipe σ vs ∧ tt σ2 H2 fun b H3 =>
    if b = true then te σ2 H3 fun y H4 => ∃ acc, H4 D = some (.lst acc) ∧ acc.length < sizeLine ∧ Nx (upd H4 D (.lst (acc ++ [y]))) else Nx H3)
theorem lc_core {pins : List (Addr × Obj)} {s : Shared} {σ : St} {H : Hp} {Q : VK} {elt tg iter : Expr} {ifs : List Expr} {scope : Scope} {own : List (Str × Nat)} {pos pos' : Pos} {wi : TI} {g : TG} {tt : TT} {te : TE} {use : Option (Value → Sem Unit)} {Qf : Value → Shared → Prop}
    (hc : X.calm = true) (hN : X.N.Nodup) (I : Inv X pins σ H s) (hi : PI X tg iter wi) (ok : BlkOk X.N X.env.scope scope own)
    (hg : ∀ (s : Shared) (H : Hp) (C : Addr) (cl : List (Str × Addr)) (fp : List Addr), PG (X.blk s H scope (compEnvC scope cl C X.env) fp) tg g) (ht : ∀ (s : Shared) (H : Hp) (C : Addr) (cl : List (Str × Addr)) (fp : List Addr), PTs (X.blk s H scope (compEnvC scope cl C X.env) fp) ifs tt)
    (he : ∀ (s : Shared) (H : Hp) (C : Addr) (cl : List (Str × Addr)) (fp : List Addr), PE (X.blk s H scope (compEnvC scope cl C X.env) fp) elt te) (hs : ∀ x, foldedSetIterable iter X.env x = pure x)
    (h : tLc wi g tt te (own.map (·.2)) σ H Q)
    (hRR : ∀ D C s' m H', Inv X pins σ H' s' → Q (.ref D) H' → s'.heap.Ns C m → FpOk X pins H' C → compPost (model X.prog X.w) X.A X.xe use Qf (.ref D) C (.ok .next) s') :
    wpAny (model X.prog X.w) X.A (comprehension (.ListComp elt [⟨tg, iter, ifs, 0⟩] scope pos) scope X.env pos' (newList []) false (eval iter X.env) use) Qf X.xe s := by
  have hfree : ∀ y ∈ scope.names, y.2 = .free → ∃ c, X.env.cells.lookup y.1 = some c := fun y hy e => by
    rcases ok.free y hy e with k | k
    · exact I.ok.has _ (.inl k)
    · exact I.ok.has _ (.inr k)
  refine wpAny_comprehension_free (use := use) rfl hs (closure_ok hfree) ok.kind (fun y hy e => by rw [ok.uniq y hy, e])
    (thn (hi pins s σ H _ I h) fun xv s1 hx => thn hx fun itv s2 h2 => ?_)
  obtain ⟨it, fp, tn, J, H2, e, I2, T, st2, f2, q⟩ := h2
  subst e
  refine wpAny_newObj_type (newEnv_comp ?_) (by show 0 ≤ sizeLine; decide)
  generalize hD : s2.heap.objs.size = D
  have hDn : H2 D = none := I2.hok.fresh (Nat.le_of_eq hD)
  obtain ⟨W, ⟨m0, w0⟩, turn⟩ := q D hDn
  -- the new list
  generalize hs3 : ({ s2 with heap := s2.heap.push { cls := .type "list", data := .seq ([] : List Value).toArray } } : Shared) = s3
  have I3 : Inv X pins σ (upd H2 D (.lst [])) s3 := by
    rw [← hs3]
    refine I2.laid (t' := s2.toks) (fun b o e => Heap.get?_push_of_some _ e) (Nat.le_of_eq hD) ⟨Nat.zero_le _, [], 0, .nil, ?_⟩
    rw [← hD]
    exact Heap.get?_push_size _ rfl
  have h3 : s3.heap = s2.heap.push { cls := .type "list", data := .seq ([] : List Value).toArray } := by rw [← hs3]
  have sz : ∀ b ∈ fp, b < s2.heap.objs.size := fun b hb => by
    obtain ⟨o, e, _⟩ := T.obj _ _ st2 b hb
    exact Heap.lt_size e
  have f3 : ∀ b ∈ fp, FpOk X pins (upd H2 D (.lst [])) b ∧ b < s3.heap.objs.size := fun b hb => by
    have hlt := sz b hb
    refine ⟨⟨?_, (f2 b hb).2⟩, by rw [h3, Heap.size_push]; exact Nat.lt_succ_of_lt hlt⟩
    rw [upd_ne (by rw [← hD]; exact Nat.ne_of_lt hlt)]
    exact (f2 b hb).1
  have st3 : tn 0 s3.heap := T.keep _ _ _ st2 fun b _ o e => by rw [h3]; exact Heap.get?_push_of_some _ e
  have I4 := block_start I3 ok hN f3
  have pg := hg s3 (upd H2 D (.lst [])) s3.heap.objs.size (cellsFrom (s3.heap.objs.size + 1) scope.names (cloFrom X.env.cells scope.names [])) fp
  have pt := ht s3 (upd H2 D (.lst [])) s3.heap.objs.size (cellsFrom (s3.heap.objs.size + 1) scope.names (cloFrom X.env.cells scope.names [])) fp
  have pe := he s3 (upd H2 D (.lst [])) s3.heap.objs.size (cellsFrom (s3.heap.objs.size + 1) scope.names (cloFrom X.env.cells scope.names [])) fp
  show codeAny _ _ (.compStart (.ListComp elt [⟨tg, iter, ifs, 0⟩] scope pos) 0 (.ref it) (.ref D) (compEnvC scope (cellsFrom (s3.heap.objs.size + 1) scope.names (cloFrom X.env.cells scope.names [])) s3.heap.objs.size X.env)) (compPost (model X.prog X.w) X.A X.xe use Qf (.ref D) s3.heap.objs.size) { s3 with heap := pushCells (s3.heap.push { cls := .type "dict", data := .dict #[] }) scope.names }
  have nfp : ∀ b ∈ fp, (upd H2 D (.lst [])) b = none := fun b hb => (f3 b hb).1.1
  generalize hce : compEnvC scope (cellsFrom (s3.heap.objs.size + 1) scope.names (cloFrom X.env.cells scope.names [])) s3.heap.objs.size X.env = ce at I4 pg pt pe ⊢
  have cL : ce.locals = s3.heap.objs.size := by subst hce; rfl
  generalize hH3 : upd H2 D (.lst []) = H3 at I3 I4 pg pt pe w0 nfp f3
  generalize hs4 : ({ s3 with heap := pushCells (s3.heap.push { cls := .type "dict", data := .dict #[] }) scope.names } : Shared) = s4 at I4 ⊢
  have st4 : tn 0 s4.heap := T.keep _ _ _ st3 fun b _ o e => by rw [← hs4]; exact pushCells_keeps _ _ _ _ (Heap.get?_push_of_some _ e)
  have stat : ∀ {σ' : St} {H' : Hp} {s' : Shared}, Inv (X.blk s3 H3 scope ce fp) [] σ' H' s' → (∀ b ∈ fp, H' b = none) → ∀ b ∈ fp, FpOk (X.blk s3 H3 scope ce fp) [] H' b := fun {σ' H' s'} I' hn b hb =>
    ⟨hn b hb, (I'.ok.exf b hb).1, I'.ok.exfs b hb, .inl hb, fun x c e => (I'.ok.exf b hb).2 x c e, fun p hp => absurd (show p ∈ ([] : List (Addr × Obj)) ++ [] from hp) (by simp)⟩
  have loop : codeAny (model X.prog X.w) X.A (.compLoop (.ListComp elt [⟨tg, iter, ifs, 0⟩] scope pos) 0 (.ref it) (.ref D) ce) (compPost (model X.prog X.w) X.A X.xe use Qf (.ref D) s3.heap.objs.size) s4 := by
    refine compLoop_any (fun n s' => ∃ i H', Inv (X.blk s3 H3 scope ce fp) [] (wipe σ (own.map (·.2))) H' s' ∧ tn i s'.heap ∧ (∀ b ∈ fp, H' b = none) ∧ W i n H') ?_ m0 ⟨0, H3, I4, st4, nfp, w0⟩
    rintro n s5 ⟨i, H5, I5, st5, n5, w5⟩
    rcases turn i n H5 w5 with ⟨stop, qq⟩ | ⟨go, Nx, hNx, step⟩
    · have td := T.done (X.blk s3 H3 scope ce fp) rfl rfl rfl hc i [] s5 _ H5 (fun _ _ => False) I5 (stat I5 n5) st5 stop
      refine thnF td fun r s6 ⟨hr, I6⟩ => ?_
      subst hr
      -- back in the def's context
      have I7 : Inv X pins σ H5 s6 := I3.call' (ch := fp) I6.os I6.base I6.hok I6.bare fun b hb => ⟨(f3 b hb).1.2.2.2.1, (f3 b hb).1.2.1, (f3 b hb).1.2.2.2.2.1, (f3 b hb).1.2.2.2.2.2⟩
      have nC : H5 s3.heap.objs.size = none := by
        have z : H5 ce.locals = none := I6.free
        rw [cL] at z
        exact z
      obtain ⟨m, hn, _⟩ := I6.loc
      have hn : s6.heap.Ns ce.locals m := hn
      rw [cL] at hn
      exact hRR D s3.heap.objs.size s6 m H5 I7 qq hn (I3.fpOk (Nat.le_refl _) nC)
    · have ti := T.item (X.blk s3 H3 scope ce fp) rfl rfl rfl hc i [] s5 _ H5 (fun _ _ => False) I5 (stat I5 n5) st5 go
      refine thnF ti fun r s6 ⟨u, hr, h6⟩ => ?_
      subst hr
      refine thnF h6 fun _ s7 ⟨x, H7, I7, r7, y7, st7, n7⟩ => ?_
      have I7' := I7.pinned (stat I7 n7) (T.obj _ _ st7)
      refine thnF (pg _ s7 _ H7 x u _ I7' r7 (step x H7 y7)) fun _ s8 ⟨σ8, H8, I8, hw8, q8⟩ => ?_
      refine thnF (pt _ s8 σ8 H8 _ I8 q8) fun b s9 ⟨H9, I9, q9⟩ => ?_
      -- the turn's end
      have fin : ∀ {s' : Shared} {H' : Hp}, Inv (X.blk s3 H3 scope ce fp) ([] ++ pinsAt fp s7.heap) σ8 H' s' → Nx H' → ∃ m, m < n ∧ ∃ i H', Inv (X.blk s3 H3 scope ce fp) [] (wipe σ (own.map (·.2))) H' s' ∧ tn i s'.heap ∧ (∀ b ∈ fp, H' b = none) ∧ W i m H' := fun {s' H'} I' nx => by
        obtain ⟨m', hm, w'⟩ := hNx H' nx
        have pin' : ∀ b ∈ fp, ∀ o, s7.heap.get? b = some o → s'.heap.get? b = some o ∧ H' b = none := fun b hb o e =>
          let z := I'.pin (b, o) (List.mem_append_right _ (List.mem_append_right _ (mem_pinsAt hb e)))
          ⟨z.1, z.2.1⟩
        have hl : (wipe σ (own.map (·.2))).length = σ8.length := by rw [← hw8, wipe_length]
        refine ⟨m', hm, i + 1, H', (I'.unpinned (pins := [])).weak hl (fun j v e => ?_), T.keep _ _ _ st7 fun b hb o e => (pin' b hb o e).1, fun b hb => ?_, w'⟩
        · rw [← hw8] at e
          exact (wipe_some e).1
        · obtain ⟨o, e, _⟩ := T.obj _ _ st7 b hb
          exact (pin' b hb o e).2
      cases b with
      | false =>
        simp only [Bool.false_eq_true, if_false] at q9 ⊢
        exact fin I9 q9
      | true =>
        simp only [if_true] at q9 ⊢
        refine thnF (pe _ s9 σ8 H9 _ I9 q9) fun z s10 ⟨yv, H10, I10, r10, acc, hD10, hz10, nx⟩ => ?_
        exact app_ok (X := X.blk s3 H3 scope ce fp) I10 hD10 hz10 r10 fun s11 I11 => fin I11 nx
  exact codeAny_compStart_list loop (T.self X.A 0 _ _ _ st4 loop)
theorem pe_lc {elt tg iter : Expr} {ifs : List Expr} {scope : Scope} {own : List (Str × Nat)} {pos : Pos} {wi : TI} {g : TG} {tt : TT} {te : TE} (hc : X.calm = true) (hN : X.N.Nodup) (hi : PI X tg iter wi) (ok : BlkOk X.N X.env.scope scope own)
    (hg : ∀ (s : Shared) (H : Hp) (C : Addr) (cl : List (Str × Addr)) (fp : List Addr), PG (X.blk s H scope (compEnvC scope cl C X.env) fp) tg g) (ht : ∀ (s : Shared) (H : Hp) (C : Addr) (cl : List (Str × Addr)) (fp : List Addr), PTs (X.blk s H scope (compEnvC scope cl C X.env) fp) ifs tt)
    (he : ∀ (s : Shared) (H : Hp) (C : Addr) (cl : List (Str × Addr)) (fp : List Addr), PE (X.blk s H scope (compEnvC scope cl C X.env) fp) elt te) (hs : ∀ x, foldedSetIterable iter X.env x = pure x := by intro _; rfl) :
    PE X (.ListComp elt [⟨tg, iter, ifs, 0⟩] scope pos) (tLc wi g tt te (own.map (·.2))) := by
  intro pins s σ H Q I h
  rw [eval_ListComp]
  refine lc_core hc hN I hi ok hg ht he hs h fun D C s' m H' I' q hn f => ⟨m, hn, fun h'' sb => ?_⟩
  obtain ⟨f0, f1, f2, f3, f4, f5⟩ := f
  exact ⟨.ref D, H', I'.turned (t' := s'.toks) (fun b o hb e => (sb.2 b hb).trans e) f0 f1 f3 f4 f5, rfl, q⟩
end
end L2
namespace L2
open PySem PySem.Spec PyProof.Rows
section
variable {X : Cx} {pins : List (Addr × Obj)} {σ : St} {H : Hp} {s : Shared} {h' : Heap}
theorem Inv.turnedNew {t' : Nat} {ch : List Addr} {T : Addr} {ob : HO} (I : Inv X pins σ H s) (k : ∀ b o, b ∉ ch → s.heap.get? b = some o → h'.get? b = some o) (hf : ∀ b ∈ ch, FpOk X pins H b) (hT : s.heap.objs.size ≤ T)
    (new : ObjOk X.prog X.w (upd H T ob) h' T ob) : Inv X pins σ (upd H T ob) { s with heap := h', toks := t' } := by
  have hn : H T = none := I.hok.fresh hT
  have nit : ∀ b u, H b = some u → b ∉ ch := fun b u e z => by
    have q := (hf b z).1
    rw [q] at e; cases e
  refine I.step (g' := s.gens) (d' := s.drawn) (ch := ch) (fun b hb => ⟨(hf b hb).2.2.2.1, (hf b hb).2.1, (hf b hb).2.2.2.2.1, (hf b hb).2.2.2.2.2⟩) (fun b o _ _ hc e _ => k b o hc e) (fun b o _ _ hc e _ => ⟨o.slots, k b o hc e⟩)
    (fun b o _ e n => ?_) (fun b o hc e => ⟨o, k b o hc e⟩) (fun b xs e => ?_) (fun b o u e => ?_) (fun b ps e => ⟨#[], ?_⟩) (fun m hm => ?_) (fun b u e => ?_) I.bare
  · rw [upd_ne (Nat.ne_of_lt (Nat.lt_of_lt_of_le (Heap.lt_size e) hT))]; exact n
  · rw [upd_ne (ne_of_none e hn)]; exact e
  · rw [upd_ne (ne_of_none e hn)]; exact e
  · rw [upd_ne (ne_of_none e hn), e]; simp
  · obtain ⟨o, es, ep, ho, r⟩ := hm
    exact ⟨o, es, ep, k _ o (fun z => (hf _ z).2.1 rfl) ho, r⟩
  · by_cases hb : b = T
    · subst hb
      rw [upd_same] at e
      cases e
      exact new
    · rw [upd_ne hb] at e
      refine (I.hok b u e).stay (fun c v hc q => k c v ?_ q) (fun c q => by rw [upd_ne (ne_of_none q hn)]; exact q) fun c xs q => by rw [upd_ne (ne_of_none q hn)]; exact q
      rcases hc with z | z
      · rw [z]; exact nit b u e
      · exact nit c _ z
end
def Ite (K : PySem.W.Frag) (a : Addr) : It :=
  ⟨fun i H => ∃ (xs : List V) (x : V), SqL K H a xs ∧ xs[i]? = some x, fun i H v H' => ∃ T x, v = .ref T ∧ H T = none ∧ H' = upd H T (.tup [.int (i : Nat), x]) ∧ ∀ xs, SqL K H a xs → xs[i]? = some x, fun i H => ∃ xs : List V, SqL K H a xs ∧ xs.length ≤ i⟩
theorem turn_enum {P : Program} {w : World} {K : PySem.W.Frag} {elts : List Expr} {kk : Nat} {tpos : Pos} (a e it : Addr) :
    Turn P w K (.Tuple elts kk tpos) (Ite K a) [e, it] e (fun i h => (∃ old, IsEnum h e it ((i : Nat) : Int) old) ∧ h.IsListIter it a i ∧ e ≠ it) where
  mem := by simp
  obj := fun i h st b hb => by
    obtain ⟨⟨old, he⟩, ⟨o, ho, hc, hd⟩, _⟩ := st
    have e' : b = e ∨ b = it := by simpa using hb
    rcases e' with z | z
    · rw [z]; exact ⟨_, he, fun v q => nomatch q⟩
    · rw [z]; exact ⟨o, ho, fun v q => by rw [hd] at q; cases q⟩
  keep := fun i h h' st k => let ⟨⟨old, he⟩, hi, hne⟩ := st; ⟨⟨old, k e (by simp) _ he⟩, hi.at fun o q => k it (by simp) o q, hne⟩
  item := by
    intro X hP hw hK hc i pins s σ H E I hf st hg
    subst hP hw hK
    obtain ⟨⟨old, he⟩, hit, hne⟩ := st
    obtain ⟨xs, x, hq, hx⟩ := hg
    obtain ⟨its, rv, p, hz⟩ := I.list hq
    obtain ⟨u, hu, ru⟩ := rv.get hx
    have hel : e < s.heap.objs.size := Heap.lt_size he
    have hil : it < s.heap.objs.size := by obtain ⟨_, q, _⟩ := hit; exact Heap.lt_size q
    refine wpAny_pyNext_enum_item he hit p.isList (x := u) (by simpa using hu) hne fun h' ho hit' hT hsz hk => ?_
    refine ⟨_, rfl, wpAny_letOwnedTupleGo_enum (s := { s with heap := h', toks := s.toks + 1 }) ho fun h'' he' sb => ?_⟩
    have hT2 : h''.get? s.heap.objs.size = some { cls := .type "tuple", data := .seq #[.int i s.toks, u] } := (sb.2 _ (Nat.ne_of_gt hel)).trans hT
    have new : ObjOk X.prog X.w (upd H s.heap.objs.size (.tup [.int (i : Nat), x])) h'' s.heap.objs.size (.tup [.int (i : Nat), x]) :=
      ⟨by show 2 ≤ sizeLine; decide, [.int i s.toks, u], .cons ⟨_, rfl⟩ (.cons ru .nil), ⟨_, hT2, rfl, _, rfl⟩⟩
    have I1 : Inv X pins σ (upd H s.heap.objs.size (.tup [.int (i : Nat), x])) { s with heap := h'', toks := s.toks + 1 } :=
      I.turnedNew (ch := [e, it]) (fun b ob hb q => (sb.2 b (fun z => hb (by simp [z]))).trans (hk b ob (fun z => hb (by simp [z])) (fun z => hb (by simp [z])) q)) hf (Nat.le_refl _) new
    refine ⟨.ref s.heap.objs.size, _, I1, rfl, ⟨_, x, rfl, I.hok.fresh (Nat.le_refl _), rfl, fun ys hy => by rw [I.list_inj hy hq]; exact hx⟩, ⟨⟨u, ?_⟩, hit'.at fun o q => (sb.2 it (Ne.symm hne)).trans q, hne⟩, fun b hb => ?_⟩
    · have e1 : ((i + 1 : Nat) : Int) = (i : Int) + 1 := by omega
      rw [e1]; exact he'
    · have hb' : b < s.heap.objs.size := by
        have e' : b = e ∨ b = it := by simpa using hb
        rcases e' with z | z
        · rw [z]; exact hel
        · rw [z]; exact hil
      rw [upd_ne (Nat.ne_of_lt hb')]
      exact (hf b hb).1
  done := by
    intro X hP hw hK hc i pins s σ H E I hf st hg
    subst hP hw hK
    obtain ⟨⟨old, he⟩, hit, hne⟩ := st
    obtain ⟨xs, hq, hx⟩ := hg
    obtain ⟨its, rv, p, hz⟩ := I.list hq
    obtain ⟨f0, f1, f2, f3, f4, f5⟩ := hf it (by simp)
    have hl := rv.length
    exact wpAny_pyNext_enum_end (I.ok.hd hc) he hit p.isList (by simp; omega) fun h' eb => ⟨rfl, I.turned (t' := s.toks) (fun b o hb q => eb b o hb q) f0 f1 f3 f4 f5⟩
  self := fun A i s Q E st h => let ⟨⟨_, he⟩, _⟩ := st; wpAny_pyIter_enum he h
def iEnum (K : PySem.W.Frag) (ta : TA) : TI := fun σ H R => ta σ H fun vs H1 => ∃ a xs, vs = [.ref a] ∧ SqL K H1 a xs ∧ R (Ite K a) H1
theorem pi_enum {X : Cx} {e : Expr} {ta : TA} {p pos tpos : Pos} {elts : List Expr} {kk : Nat} (hg : Gl X "enumerate") (hm : X.mg "enumerate" = none) (ha : PA X [e] ta) (hs : starEach [e] X.env = [(false, eval e X.env)] := by rfl) :
    PI X (.Tuple elts kk tpos) (.Call (.Name "enumerate" p) [e] [] pos) (iEnum X.K ta) := by
  intro pins s σ H R I h
  refine Call_ (ld_blt I hg hm boot_enumerate (PyProof.Rows.callWith_type1 (thn (ha pos pins s σ H _ I h) fun us s1 ⟨vs, H1, I1, r1, q1⟩ => ?_) hs rfl))
  obtain ⟨a, xs, ex, hq, q⟩ := q1
  subst ex
  cases r1 with
  | cons r rr =>
    cases rr
    cases r
    obtain ⟨its, rv, p', hz⟩ := I1.list hq
    refine call_enumerate_list p'.isList fun h' he hit hsz hk => wpAny_pyIter_enum he ?_
    have I2 : Inv X pins σ H1 { s1 with heap := h' } := I1.kept (t' := s1.toks) hk
    refine ⟨s1.heap.objs.size + 1, [s1.heap.objs.size + 1, s1.heap.objs.size], _, _, H1, rfl, I2, turn_enum a (s1.heap.objs.size + 1) s1.heap.objs.size, ⟨⟨.none, he⟩, hit, Nat.succ_ne_self _⟩, fun b hb => ?_, q⟩
    have e' : b = s1.heap.objs.size + 1 ∨ b = s1.heap.objs.size := by simpa using hb
    have hle : s1.heap.objs.size ≤ b := by
      rcases e' with z | z
      · rw [z]; exact Nat.le_add_right _ _
      · rw [z]; exact Nat.le_refl _
    exact I1.fpOk hle (I1.hok.fresh hle)
end L2
namespace L2
open PySem PySem.Spec PyProof.Rows
def inClass (s : Stmt) (j : Nat) : Stmt := match s with
  | .ClassDef _ _ _ body _ _ _ _ _ _ _ => body.getD j (.Pass ⟨0, 0, 0, 0⟩)
  | _ => .Pass ⟨0, 0, 0, 0⟩
def defArgs (s : Stmt) : Arguments := match s with
  | .FunctionDef _ a _ _ _ _ _ _ _ _ => a
  | _ => { posonlyargs := [], args := [], vararg := none, kwonlyargs := [], kw_defaults := [], kwarg := none, defaults := [] }
def defBody (s : Stmt) : List Stmt := match s with
  | .FunctionDef _ _ b _ _ _ _ _ _ _ => b
  | _ => []
def defScope (s : Stmt) : Scope := match s with
  | .FunctionDef _ _ _ _ _ _ sc _ _ _ => sc
  | _ => { kind := .function, names := [], isGenerator := false, isCoroutine := false }
abbrev CX0 : CXT := fun _ _ _ _ _ _ => False
abbrev E0 : XK := fun _ _ _ => False
theorem pass0 {X : Cx} : Passes CX0 X E0 := fun _ _ _ _ _ _ _ h => h.elim
structure Fun (K : PySem.W.Frag) (x qual : Str) (st : Stmt) (f : Addr) (fd : FuncData) : Prop where
  ex : ∃ (oc : Value) (od : Option Addr) (kV doc pm : Value) (an : Option Addr) (cdv ct : Value) (osl : Array (Option Value)),
    fd = PySem.W.fnOf x qual (defArgs st) (defBody st) (defScope st) .none kV doc pm an cdv ct ∧ K.lookup f = some ⟨oc, od, .func fd, osl⟩ ∧ PySem.W.codeIn K cdv qual = true
  kp : PySem.W.keepIn K (.ref f) = true
section
variable {P : Program} {w : World} {K : PySem.W.Frag} {mg : Str → Option Value} {base : Heap}
theorem Fun.ok {x qual : Str} {st : Stmt} {f : Addr} {fd : FuncData} {N ps : List Str} {k : Nat} {sp : Sp} (F : Fun K x qual st f fd) (S : FnScope N ps (defScope st)) (len : ∀ vs H Q E, sp vs H Q E → vs.length = ps.length)
    (hbody : ∀ (cdv : Value) (A : Around) (outer : List Env) (s : Shared) (H : Hp) (vs : List V) (Q : VK) (E : XK), Room k (A.deeper (envOfC qual (defScope st) s.heap.objs.size f cdv)) → sp vs H Q E →
      ∃ t, PSs (cxOf CX0 P w K mg base N qual (defScope st) f cdv A outer s H E).nox (defBody st) t ∧ t { nx := fun _ H' => Q .non H', rt := Q } (start N vs) H) : FnOk P w K mg base CX0 (k + 1) f fd ps sp := by
  obtain ⟨oc, od, kV, doc, pm, an, cdv, ct, osl, rfl, lk, hcd⟩ := F.ex
  refine fn_of lk hcd S len fun A outer s H vs Q E hr hsp => ?_
  obtain ⟨t, h, q⟩ := hbody cdv A outer s H vs Q E hr hsp
  exact ⟨t, h.nox, q⟩
theorem Fun.binds {x qual : Str} {st : Stmt} {f : Addr} {fd : FuncData} {ps : List Str} (F : Fun K x qual st f fd)
    (h : ∀ (kV doc pm : Value) (an : Option Addr) (cdv ct : Value) (us : List Value), us.length = ps.length → bindArgs (PySem.W.fnOf x qual (defArgs st) (defBody st) (defScope st) .none kV doc pm an cdv ct) ⟨us, []⟩ = pure (ps.zip us)) : Binds K fd ps [] := by
  obtain ⟨oc, od, kV, doc, pm, an, cdv, ct, osl, rfl, lk, hcd⟩ := F.ex
  exact .all (h kV doc pm an cdv ct)
theorem fun_mk {x qual : Str} {st : Stmt} {f : Addr} {oc : Value} {od an : Option Addr} {osl : Array (Option Value)} {kV doc pm cdv ct : Value} (l : K.lookup f = some ⟨oc, od, .func (PySem.W.fnOf x qual (defArgs st) (defBody st) (defScope st) .none kV doc pm an cdv ct), osl⟩)
    (c : PySem.W.codeIn K cdv qual = true) (k : PySem.W.keepIn K (.ref f) = true) : Fun K x qual st f (PySem.W.fnOf x qual (defArgs st) (defBody st) (defScope st) .none kV doc pm an cdv ct) := ⟨⟨oc, od, kV, doc, pm, an, cdv, ct, osl, rfl, l, c⟩, k⟩
end
section
variable {X : Cx}
theorem pv (i : Nat) {x : Str} {pos : Pos} (hN : X.N[i]? = some x := by rfl) (hv : Vis X.env.scope x := by first | exact Or.inl rfl | exact Or.inr (Or.inl rfl) | exact Or.inr (Or.inr rfl)) (hd : (x == ("__debug__" : Str)) = false := by decide)
    (hcd : (x == ("__classdict__" : Str)) = false := by decide) : PE X (.Name x pos) (tVar i) := pe_var hN hv hd hcd
end
end L2
set_option maxHeartbeats 2000000
namespace L2
open PySem PySem.Spec PyProof.Rows
open PySem.W (WData Codec OpenSpec Well WellAll ReadsW ReadsAllW)
mutual
inductive Dw (K : PySem.W.Frag) (H : Hp) : V → WData → Prop
  | non : Dw K H .non .none
  | bl (b : Bool) : Dw K H (.bl b) (.bool b)
  | int (i : Int) : Dw K H (.int i) (.int i)
  | str (x : Str) : Dw K H (.str x) (.str x)
  | byt (b : Array UInt8) : Dw K H (.byt b) (.bytes b.toList)
  | lst {a : Addr} {xs : List V} {ds : List WData} : SqL K H a xs → DwAll K H xs ds → Dw K H (.ref a) (.list ds)
  | tup {a : Addr} {xs : List V} {ds : List WData} : SqT K H a xs → DwAll K H xs ds → Dw K H (.ref a) (.tuple ds)
inductive DwAll (K : PySem.W.Frag) (H : Hp) : List V → List WData → Prop
  | nil : DwAll K H [] []
  | cons {v : V} {vs : List V} {d : WData} {ds : List WData} : Dw K H v d → DwAll K H vs ds → DwAll K H (v :: vs) (d :: ds)
end
theorem dw_ints {K : PySem.W.Frag} {H : Hp} : ∀ ns : List Int, DwAll K H (ns.map V.int) (ns.map WData.int)
  | [] => .nil
  | n :: r => .cons (.int n) (dw_ints r)
theorem ints_dw {K : PySem.W.Frag} {H : Hp} : ∀ (ns : List Int) (xs : List V), DwAll K H xs (ns.map WData.int) → xs = ns.map V.int
  | [], xs, h => by
    cases h
    rfl
  | n :: r, xs, h => by
    cases h with
    | cons h1 h2 =>
      cases h1
      rw [ints_dw r _ h2] <;> rfl
section
variable {P : Program} {w : World} {K : PySem.W.Frag} {H : Hp} {h : Heap} {R : PySem.W.WRecords} {cl : Str → Option Addr}
theorem sqL_at {a : Addr} {xs : List V} (hok : HOk P w H h) (KX : K.In h) (q : SqL K H a xs) : ∃ (its : List Value) (o : Obj) (n : Nat), Vals xs its ∧ h.get? a = some o ∧ o.cls = .type "list" ∧ o.data = .seq its.toArray n := by
  rcases q with q | ⟨o, its, n, e, hc, _, hd, _, hv⟩
  · obtain ⟨_, its, n, hv, e⟩ := (show ObjOk P w H h a (.lst xs) from q.ok hok)
    exact ⟨its, _, n, hv, e, rfl, rfl⟩
  · exact ⟨its.toList, o, n, hv, KX _ _ e, hc, by simp [hd]⟩
theorem sqT_at {a : Addr} {xs : List V} (hok : HOk P w H h) (KX : K.In h) (q : SqT K H a xs) : ∃ (its : List Value) (o : Obj) (n : Nat), Vals xs its ∧ h.get? a = some o ∧ o.cls = .type "tuple" ∧ o.data = .seq its.toArray n := by
  rcases q with q | ⟨o, its, n, e, hc, hd, _, hv⟩
  · obtain ⟨_, its, hv, o, e, hc, n, hd⟩ := (show ObjOk P w H h a (.tup xs) from q.ok hok)
    exact ⟨its, o, n, hv, e, hc, hd⟩
  · exact ⟨its.toList, o, n, hv, KX _ _ e, hc, by simp [hd]⟩
mutual
theorem Dw.reads (hok : HOk P w H h) (KX : K.In h) : ∀ (d : WData) (v : V) (u : Value), Dw K H v d → RelV v u → ∃ as, ReadsW R cl h u d as
  | .none, _, _, x, r => by
    cases x
    cases r
    exact ⟨_, ReadsW.none⟩
  | .bool b, _, _, x, r => by
    cases x
    cases r
    exact ⟨_, ReadsW.bool b⟩
  | .int i, _, _, x, r => by
    cases x
    obtain ⟨t, rfl⟩ := r
    exact ⟨_, ReadsW.int i t⟩
  | .str s, _, _, x, r => by
    cases x
    obtain ⟨t, rfl⟩ := r
    exact ⟨_, ReadsW.str s t⟩
  | .bytes b, _, _, x, r => by
    cases x
    obtain ⟨t, rfl⟩ := r
    exact ⟨_, ReadsW.bytes _ t⟩
  | .list ds, _, _, x, r => by
    cases x with
    | lst hs ha =>
      cases r
      obtain ⟨its, o, n, rv, ho, hc, hd⟩ := sqL_at hok KX hs
      obtain ⟨as, hr⟩ := Dw.readsAll hok KX ds _ its ha rv
      exact ⟨_, ReadsW.list ho hc hd hr⟩
  | .tuple ds, _, _, x, r => by
    cases x with
    | tup hs ha =>
      cases r
      obtain ⟨its, o, n, rv, ho, hc, hd⟩ := sqT_at hok KX hs
      obtain ⟨as, hr⟩ := Dw.readsAll hok KX ds _ its ha rv
      exact ⟨_, ReadsW.tuple ho hc hd hr⟩
  | .float _, _, _, x, _ => by cases x
  | .dict _, _, _, x, _ => by cases x
  | .bytearray _, _, _, x, _ => by cases x
  | .set _, _, _, x, _ => by cases x
  | .frozenset _, _, _, x, _ => by cases x
  | .obj _ _, _, _, x, _ => by cases x
theorem Dw.readsAll (hok : HOk P w H h) (KX : K.In h) : ∀ (ds : List WData) (vs : List V) (us : List Value), DwAll K H vs ds → Vals vs us → ∃ as, ReadsAllW R cl h us ds as
  | [], _, _, x, r => by
    cases x
    cases r
    exact ⟨_, ReadsAllW.nil⟩
  | d :: ds, _, _, x, r => by
    cases x with
    | cons h1 h2 =>
      cases r with
      | cons r1 r2 =>
        obtain ⟨as, q1⟩ := Dw.reads hok KX d _ _ h1 r1
        obtain ⟨bs, q2⟩ := Dw.readsAll hok KX ds _ _ h2 r2
        exact ⟨_, ReadsAllW.cons q1 q2⟩
end
end
mutual
def plW : WData → Bool
  | .none => true
  | .bool _ => true
  | .int _ => true
  | .str _ => true
  | .bytes _ => true
  | .list xs => plWs xs
  | .tuple xs => plWs xs
  | _ => false
def plWs : List WData → Bool
  | [] => true
  | x :: r => plW x && plWs r
end
theorem plWs_map {α : Type} {f : α → WData} (h : ∀ a, plW (f a) = true) : ∀ l : List α, plWs (l.map f) = true
  | [] => rfl
  | x :: r => by
    show (plW (f x) && plWs (r.map f)) = true
    rw [h x, plWs_map h r] <;> rfl
theorem pl_enc : ∀ (c : Codec) (a : c.denote), plW (c.enc a) = true
  | .unit, _ => rfl
  | .bool, _ => rfl
  | .int _ _, _ => rfl
  | .nat _ _, _ => rfl
  | .u8, _ => rfl
  | .bytes _ _, _ => rfl
  | .text _ _ _ _, _ => rfl
  | .list _ _ c, a => plWs_map (fun x => pl_enc c x) a
  | .pair c d, a => by
    show (plW (c.enc a.1) && (plW (d.enc a.2) && true)) = true
    rw [pl_enc c a.1, pl_enc d a.2] <;> rfl
  | .triple c d e, a => by
    show (plW (c.enc a.1) && (plW (d.enc a.2.1) && (plW (e.enc a.2.2) && true))) = true
    rw [pl_enc c a.1, pl_enc d a.2.1, pl_enc e a.2.2] <;> rfl
  | .option c, none => rfl
  | .option c, some x => pl_enc c x
theorem pl_encAll : ∀ (cs : List Codec) (a : Codec.denoteAll cs), plWs (Codec.encAll cs a) = true
  | [], _ => rfl
  | c :: cs, a => by
    show (plW (c.enc a.1) && plWs (Codec.encAll cs a.2)) = true
    rw [pl_enc c a.1, pl_encAll cs a.2] <;> rfl
theorem weight_mem : ∀ {xs : List WData} {d : WData}, d ∈ xs → d.weight ≤ WData.weightAll xs
  | [], d, h => absurd h (by simp)
  | x :: r, d, h => by
    show d.weight ≤ x.weight + 1 + WData.weightAll r
    rcases List.mem_cons.mp h with e | m
    · rw [e]
      omega
    · have z := weight_mem m
      omega
def toV : Value → V
  | .none => .non
  | .bool b => .bl b
  | .int i _ => .int i
  | .str x _ => .str x
  | .bytes b _ => .byt b
  | .ref a => .ref a
  | _ => .non
def OkU (A : List Addr) : Value → Prop
  | .none => True
  | .bool _ => True
  | .int _ _ => True
  | .str _ _ => True
  | .bytes _ _ => True
  | .ref a => a ∈ A
  | _ => False
theorem OkU.mono {A B : List Addr} (h : ∀ a ∈ A, a ∈ B) : ∀ {u : Value}, OkU A u → OkU B u := fun {u} x => by
  cases u with
  | ref a => exact h a x
  | none => trivial
  | bool b => trivial
  | int i t => trivial
  | str s t => trivial
  | bytes b t => trivial
  | _ => exact False.elim x
theorem relV_toV {A : List Addr} {u : Value} (x : OkU A u) : RelV (toV u) u := by
  cases u with
  | ref a => rfl
  | none => rfl
  | bool b => rfl
  | int i t => exact ⟨t, rfl⟩
  | str s t => exact ⟨t, rfl⟩
  | bytes b t => exact ⟨t, rfl⟩
  | _ => exact False.elim x
theorem vals_toV {A : List Addr} : ∀ {vs : List Value}, (∀ u ∈ vs, OkU A u) → Vals (vs.map toV) vs
  | [], _ => .nil
  | u :: r, h => .cons (relV_toV (h u (List.mem_cons_self ..))) (vals_toV fun x hx => h x (List.mem_cons_of_mem _ hx))
def ArgOb (h : Heap) (A : List Addr) (a : Addr) : Prop := ∃ vs : List Value, vs.length ≤ sizeLine ∧ (∀ u ∈ vs, OkU A u) ∧
  (h.get? a = some { cls := .type "list", data := .seq vs.toArray } ∨ h.get? a = some { cls := .type "tuple", data := .seq vs.toArray })
theorem ArgOb.mono {h : Heap} {A B : List Addr} {a : Addr} (k : ∀ a ∈ A, a ∈ B) (x : ArgOb h A a) : ArgOb h B a := by
  obtain ⟨vs, h1, h2, h3⟩ := x
  exact ⟨vs, h1, fun u hu => (h2 u hu).mono k, h3⟩
theorem wellAll_len {P : Params} {h : Heap} : ∀ {vs : List Value} {ds : List WData}, WellAll P h vs ds → vs.length = ds.length
  | _, _, .nil => rfl
  | _, _, .cons _ b => by
    show _ + 1 = _ + 1
    rw [wellAll_len b]
theorem well_list {P : Params} {h : Heap} {v : Value} {ds : List WData} (x : Well P h v (.list ds)) : ∃ (a : Addr) (vs : List Value), v = .ref a ∧ h.get? a = some { cls := .type "list", data := .seq vs.toArray } ∧ WellAll P h vs ds := by
  cases x with
  | list ho hall => exact ⟨_, _, rfl, ho, hall⟩
theorem well_tuple {P : Params} {h : Heap} {v : Value} {ds : List WData} (x : Well P h v (.tuple ds)) : ∃ (a : Addr) (vs : List Value), v = .ref a ∧ h.get? a = some { cls := .type "tuple", data := .seq vs.toArray } ∧ WellAll P h vs ds := by
  cases x with
  | tuple ho hall => exact ⟨_, _, rfl, ho, hall⟩
theorem well_cons {P : Params} {h : Heap} {us : List Value} {d : WData} {ds : List WData} (x : WellAll P h us (d :: ds)) : ∃ (v : Value) (vs : List Value), us = v :: vs ∧ Well P h v d ∧ WellAll P h vs ds := by
  cases x with
  | cons a b => exact ⟨_, _, rfl, a, b⟩
theorem line_of {n : Nat} (h : n ≤ 1048576) : n ≤ sizeLine := Nat.le_trans h (by decide)
section
variable {P : Params} {h : Heap}
mutual
theorem area_one : ∀ (d : WData) (v : Value), Well P h v d → plW d = true → d.weight ≤ 1048576 → ∃ A : List Addr, OkU A v ∧ ∀ a ∈ A, ArgOb h A a
  | .none, _, x, _, _ => by
    cases x
    exact ⟨[], trivial, fun a m => absurd m (by simp)⟩
  | .bool b, _, x, _, _ => by
    cases x
    exact ⟨[], trivial, fun a m => absurd m (by simp)⟩
  | .int i, _, x, _, _ => by
    cases x
    exact ⟨[], trivial, fun a m => absurd m (by simp)⟩
  | .str s, _, x, _, _ => by
    cases x
    exact ⟨[], trivial, fun a m => absurd m (by simp)⟩
  | .bytes b, _, x, _, _ => by
    cases x
    exact ⟨[], trivial, fun a m => absurd m (by simp)⟩
  | .list ds, _, x, p, z => by
    obtain ⟨a, vs, rfl, ho, hall⟩ := well_list x
    have z2 : WData.weightAll ds ≤ 1048576 := z
    obtain ⟨A, h1, h2⟩ := area_all ds _ hall p fun d hd => Nat.le_trans (weight_mem hd) z2
    have k : ∀ b ∈ A, b ∈ a :: A := fun b hb => List.mem_cons_of_mem _ hb
    refine ⟨a :: A, List.mem_cons_self .., fun b hb => ?_⟩
    rcases List.mem_cons.mp hb with e | m
    · rw [e]
      exact ⟨vs, line_of (by rw [wellAll_len hall]; exact Nat.le_trans (PySem.W.length_le_weightAllW ds) z2), fun u hu => (h1 u hu).mono k, .inl ho⟩
    · exact (h2 b m).mono k
  | .tuple ds, _, x, p, z => by
    obtain ⟨a, vs, rfl, ho, hall⟩ := well_tuple x
    have z2 : WData.weightAll ds ≤ 1048576 := z
    obtain ⟨A, h1, h2⟩ := area_all ds _ hall p fun d hd => Nat.le_trans (weight_mem hd) z2
    have k : ∀ b ∈ A, b ∈ a :: A := fun b hb => List.mem_cons_of_mem _ hb
    refine ⟨a :: A, List.mem_cons_self .., fun b hb => ?_⟩
    rcases List.mem_cons.mp hb with e | m
    · rw [e]
      exact ⟨vs, line_of (by rw [wellAll_len hall]; exact Nat.le_trans (PySem.W.length_le_weightAllW ds) z2), fun u hu => (h1 u hu).mono k, .inr ho⟩
    · exact (h2 b m).mono k
  | .float _, _, _, p, _ => Bool.noConfusion (show false = true from p)
  | .dict _, _, _, p, _ => Bool.noConfusion (show false = true from p)
  | .bytearray _, _, _, p, _ => Bool.noConfusion (show false = true from p)
  | .set _, _, _, p, _ => Bool.noConfusion (show false = true from p)
  | .frozenset _, _, _, p, _ => Bool.noConfusion (show false = true from p)
  | .obj _ _, _, _, p, _ => Bool.noConfusion (show false = true from p)
theorem area_all : ∀ (ds : List WData) (vs : List Value), WellAll P h vs ds → plWs ds = true → (∀ d ∈ ds, d.weight ≤ 1048576) → ∃ A : List Addr, (∀ u ∈ vs, OkU A u) ∧ ∀ a ∈ A, ArgOb h A a
  | [], _, x, _, _ => by
    cases x
    exact ⟨[], fun u m => absurd m (by simp), fun a m => absurd m (by simp)⟩
  | d :: ds, _, x, p, z => by
    obtain ⟨v, vs, rfl, x1, x2⟩ := well_cons x
    have q : plW d = true ∧ plWs ds = true := Bool.and_eq_true_iff.mp p
    obtain ⟨A, a1, a2⟩ := area_one d v x1 q.1 (z d (List.mem_cons_self ..))
    obtain ⟨B, b1, b2⟩ := area_all ds vs x2 q.2 fun e he => z e (List.mem_cons_of_mem _ he)
    have kA : ∀ b ∈ A, b ∈ A ++ B := fun b hb => List.mem_append.mpr (.inl hb)
    have kB : ∀ b ∈ B, b ∈ A ++ B := fun b hb => List.mem_append.mpr (.inr hb)
    refine ⟨A ++ B, fun u hu => ?_, fun b hb => ?_⟩
    · rcases List.mem_cons.mp hu with e | m
      · rw [e]
        exact a1.mono kA
      · exact (b1 u m).mono kB
    · rcases List.mem_append.mp hb with m | m
      · exact (a2 b m).mono kA
      · exact (b2 b m).mono kB
end
end
def hoOf (o : Obj) : Option HO := match o.data with
  | .seq vs _ => if (o.cls == Value.type "list") = true then some (.frz o (.lst (vs.toList.map toV))) else some (.frz o (.tup (vs.toList.map toV)))
  | _ => none
def argH (K : PySem.W.Frag) (h : Heap) (A : List Addr) : Hp := fun b => if b ∈ A then (if (K.lookup b).isNone = true then (h.get? b).bind hoOf else none) else none
def OnlyF (H : Hp) : Prop := ∀ b, H b = none ∨ ∃ o u, H b = some (.frz o u)
theorem hoOf_lst (vs : List Value) : hoOf { cls := .type "list", data := .seq vs.toArray } = some (.frz { cls := .type "list", data := .seq vs.toArray } (.lst (vs.map toV))) := by
  show (if (Value.type "list" == Value.type "list") = true then some (HO.frz { cls := .type "list", data := .seq vs.toArray } (.lst (vs.toArray.toList.map toV))) else some (HO.frz { cls := .type "list", data := .seq vs.toArray } (.tup (vs.toArray.toList.map toV)))) = _
  rw [if_pos (beq_self_eq_true _)]
theorem hoOf_tup (vs : List Value) : hoOf { cls := .type "tuple", data := .seq vs.toArray } = some (.frz { cls := .type "tuple", data := .seq vs.toArray } (.tup (vs.map toV))) := by
  show (if (Value.type "tuple" == Value.type "list") = true then some (HO.frz { cls := .type "tuple", data := .seq vs.toArray } (.lst (vs.toArray.toList.map toV))) else some (HO.frz { cls := .type "tuple", data := .seq vs.toArray } (.tup (vs.toArray.toList.map toV)))) = _
  rw [if_neg (by decide)]
section
variable {P : Program} {w : World} {K : PySem.W.Frag} {h : Heap} {A : List Addr}
theorem argH_at {b : Addr} {o : Obj} (hb : b ∈ A) (hk : K.lookup b = none) (e : h.get? b = some o) : argH K h A b = hoOf o := by
  unfold argH
  rw [if_pos hb, hk, if_pos (show (none : Option Obj).isNone = true from rfl), e] <;> rfl
theorem of_argH {b : Addr} {u : HO} (q : argH K h A b = some u) : b ∈ A ∧ K.lookup b = none := by
  unfold argH at q
  by_cases hb : b ∈ A
  · rw [if_pos hb] at q
    cases hk : K.lookup b with
    | none => exact ⟨hb, rfl⟩
    | some o =>
      rw [hk, if_neg (by simp)] at q
      cases q
  · rw [if_neg hb] at q
    cases q
theorem argH_is (ar : ∀ a ∈ A, ArgOb h A a) {b : Addr} {u : HO} (q : argH K h A b = some u) : K.lookup b = none ∧ ∃ vs : List Value, vs.length ≤ sizeLine ∧ (∀ u ∈ vs, OkU A u) ∧
    ((h.get? b = some { cls := .type "list", data := .seq vs.toArray } ∧ u = .frz { cls := .type "list", data := .seq vs.toArray } (.lst (vs.map toV))) ∨
     (h.get? b = some { cls := .type "tuple", data := .seq vs.toArray } ∧ u = .frz { cls := .type "tuple", data := .seq vs.toArray } (.tup (vs.map toV)))) := by
  obtain ⟨hb, hk⟩ := of_argH q
  obtain ⟨vs, h1, h2, h3⟩ := ar b hb
  refine ⟨hk, vs, h1, h2, ?_⟩
  rcases h3 with e | e
  · rw [argH_at hb hk e, hoOf_lst] at q
    exact .inl ⟨e, (Option.some.inj q).symm⟩
  · rw [argH_at hb hk e, hoOf_tup] at q
    exact .inr ⟨e, (Option.some.inj q).symm⟩
theorem argH_only (ar : ∀ a ∈ A, ArgOb h A a) : OnlyF (argH K h A) := fun b => by
  cases q : argH K h A b with
  | none => exact .inl rfl
  | some u =>
    obtain ⟨_, vs, _, _, ⟨_, e⟩ | ⟨_, e⟩⟩ := argH_is ar q
    · exact .inr ⟨_, _, by rw [e]⟩
    · exact .inr ⟨_, _, by rw [e]⟩
theorem argH_ok (ar : ∀ a ∈ A, ArgOb h A a) : HOk P w (argH K h A) h := fun b u q => by
  obtain ⟨_, vs, h1, h2, ⟨e, rfl⟩ | ⟨e, rfl⟩⟩ := argH_is ar q
  · exact ⟨e, by rw [List.length_map]; exact h1, vs, _, vals_toV h2, e⟩
  · exact ⟨e, by rw [List.length_map]; exact h1, vs, vals_toV h2, _, e, rfl, _, rfl⟩
theorem seq_inj {c c' : Value} {vs us : List Value} (e : (some { cls := c, data := .seq vs.toArray } : Option Obj) = some { cls := c', data := .seq us.toArray }) : c = c' ∧ vs = us := by
  have e1 := Option.some.inj e
  have e2 : c = c' := congrArg Obj.cls e1
  have e3 : Data.seq vs.toArray = Data.seq us.toArray := congrArg Obj.data e1
  injection e3 with e4
  refine ⟨e2, ?_⟩
  have e5 := congrArg Array.toList e4
  simpa using e5
theorem argL (KX : K.In h) (ar : ∀ a ∈ A, ArgOb h A a) {a : Addr} {vs : List Value} (ha : a ∈ A) (e : h.get? a = some { cls := .type "list", data := .seq vs.toArray }) : (∀ u ∈ vs, OkU A u) ∧ SqL K (argH K h A) a (vs.map toV) := by
  obtain ⟨us, h1, h2, h3⟩ := ar a ha
  have hu : us = vs := by
    rcases h3 with q | q
    · rw [e] at q
      exact (seq_inj q).2.symm
    · rw [e] at q
      exact absurd (Value.type.inj (seq_inj q).1) (by decide)
  subst hu
  refine ⟨h2, ?_⟩
  cases hk : K.lookup a with
  | none => exact .inl (.inr ⟨_, by rw [argH_at ha hk e, hoOf_lst]⟩)
  | some o =>
    have e2 := KX a o hk
    rw [e] at e2
    obtain rfl := Option.some.inj e2
    exact .inr ⟨_, us.toArray, _, hk, rfl, rfl, rfl, by rw [List.size_toArray]; exact h1, by simpa using vals_toV h2⟩
theorem argT (KX : K.In h) (ar : ∀ a ∈ A, ArgOb h A a) {a : Addr} {vs : List Value} (ha : a ∈ A) (e : h.get? a = some { cls := .type "tuple", data := .seq vs.toArray }) : (∀ u ∈ vs, OkU A u) ∧ SqT K (argH K h A) a (vs.map toV) := by
  obtain ⟨us, h1, h2, h3⟩ := ar a ha
  have hu : us = vs := by
    rcases h3 with q | q
    · rw [e] at q
      exact absurd (Value.type.inj (seq_inj q).1) (by decide)
    · rw [e] at q
      exact (seq_inj q).2.symm
  subst hu
  refine ⟨h2, ?_⟩
  cases hk : K.lookup a with
  | none => exact .inl (.inr ⟨_, by rw [argH_at ha hk e, hoOf_tup]⟩)
  | some o =>
    have e2 := KX a o hk
    rw [e] at e2
    obtain rfl := Option.some.inj e2
    exact .inr ⟨_, us.toArray, _, hk, rfl, rfl, by rw [List.size_toArray]; exact h1, by simpa using vals_toV h2⟩
mutual
theorem dw_one {Pm : Params} (KX : K.In h) (ar : ∀ a ∈ A, ArgOb h A a) : ∀ (d : WData) (v : Value), Well Pm h v d → plW d = true → OkU A v → Dw K (argH K h A) (toV v) d
  | .none, _, x, _, _ => by
    cases x
    exact .non
  | .bool b, _, x, _, _ => by
    cases x
    exact .bl b
  | .int i, _, x, _, _ => by
    cases x
    exact .int i
  | .str s, _, x, _, _ => by
    cases x
    exact .str s
  | .bytes b, _, x, _, _ => by
    cases x
    have z := Dw.byt (K := K) (H := argH K h A) b.toArray
    exact z
  | .list ds, _, x, p, hu => by
    obtain ⟨a, vs, rfl, ho, hall⟩ := well_list x
    obtain ⟨h2, hs⟩ := argL KX ar hu ho
    exact .lst hs (dw_all KX ar ds _ hall p h2)
  | .tuple ds, _, x, p, hu => by
    obtain ⟨a, vs, rfl, ho, hall⟩ := well_tuple x
    obtain ⟨h2, hs⟩ := argT KX ar hu ho
    exact .tup hs (dw_all KX ar ds _ hall p h2)
  | .float _, _, _, p, _ => Bool.noConfusion (show false = true from p)
  | .dict _, _, _, p, _ => Bool.noConfusion (show false = true from p)
  | .bytearray _, _, _, p, _ => Bool.noConfusion (show false = true from p)
  | .set _, _, _, p, _ => Bool.noConfusion (show false = true from p)
  | .frozenset _, _, _, p, _ => Bool.noConfusion (show false = true from p)
  | .obj _ _, _, _, p, _ => Bool.noConfusion (show false = true from p)
theorem dw_all {Pm : Params} (KX : K.In h) (ar : ∀ a ∈ A, ArgOb h A a) : ∀ (ds : List WData) (vs : List Value), WellAll Pm h vs ds → plWs ds = true → (∀ u ∈ vs, OkU A u) → DwAll K (argH K h A) (vs.map toV) ds
  | [], _, x, _, _ => by
    cases x
    exact .nil
  | d :: ds, _, x, p, hu => by
    obtain ⟨v, vs, rfl, x1, x2⟩ := well_cons x
    have q : plW d = true ∧ plWs ds = true := Bool.and_eq_true_iff.mp p
    exact .cons (dw_one KX ar d v x1 q.1 (hu _ (List.mem_cons_self ..))) (dw_all KX ar ds vs x2 q.2 fun u m => hu u (List.mem_cons_of_mem _ m))
end
end
theorem spec_call {P : Program} {w : World} {K : PySem.W.Frag} {mg mb : Str → Option Value} {CX : CXT} {k : Nat} {fa : Addr} {fd : FuncData} {ps : List Str} {sp : Sp} {s₁ : Shared} {vals : List Value} {ds : List WData} {R : PySem.W.WRecords} {cl : Str → Option Addr} {d0 : WData}
    (KX : K.In s₁.heap) (hns : s₁.heap.Ns mainGlobals mg) (hb : s₁.heap.Ns builtinsNs mb) (hbb : ∀ x : Str, x ≠ "__name__" → mb x = bootBuiltins x) (hlim : s₁.heap.NoLimit) (hg : s₁.gens = #[])
    (hwl : WellAll w.params s₁.heap vals ds) (hpl : plWs ds = true) (hwt : ∀ d ∈ ds, d.weight ≤ 1048576) (hr : Room k callerA)
    (F : ∀ base : Heap, K.In base → base.Ns mainGlobals mg → FnOk P w K mg base CX k fa fd ps sp) (hbind : ∀ (s : Shared) (us : List Value), us.length = ps.length → BindsTo s fd ⟨us, []⟩ (ps.zip us)) (hlen : ds.length = ps.length)
    (hsp : ∀ (H : Hp) (xs : List V), OnlyF H → DwAll K H xs ds → sp xs H (fun v H' => Dw K H' v d0) fun _ _ _ => False)
    (hCX : ∀ H e s', CX [] H s₁ (fun _ _ _ => False) e s' → False) :
    codeAny (model P w) callerA (.call (.ref fa) ⟨vals, []⟩) (fun r s' => ∃ u as, r = .ok (.ret u) ∧ ReadsW R cl s'.heap u d0 as ∧ OldK s₁.heap s'.heap ∧ s'.os = s₁.os ∧ AllBare s'.gens) s₁ := by
  obtain ⟨A, ho, ar⟩ := area_all ds vals hwl hpl hwt
  have hO : OnlyF (argH K s₁.heap A) := argH_only ar
  have hok : HOk P w (argH K s₁.heap A) s₁.heap := argH_ok ar
  have hS := dw_all KX ar ds vals hwl hpl ho
  have hV := vals_toV ho
  have hK : ∀ b u, argH K s₁.heap A b = some u → K.lookup b = none := fun b u q => (argH_is ar q).1
  have noA : ∀ {b : Addr} {o : Obj} {es : Array DictEntry} {ep : Nat}, s₁.heap.get? b = some o → o.data = .dict es ep → argH K s₁.heap A b = none := fun {b o es ep} e d => by
    cases q : argH K s₁.heap A b with
    | none => rfl
    | some u =>
      obtain ⟨_, vs, _, _, ⟨e2, _⟩ | ⟨e2, _⟩⟩ := argH_is ar q
      · rw [e2] at e
        cases e
        have d' : Data.seq vs.toArray _ = Data.dict es ep := d
        cases d'
      · rw [e2] at e
        cases e
        have d' : Data.seq vs.toArray _ = Data.dict es ep := d
        cases d'
  generalize argH K s₁.heap A = H at hO hok hS hK noA
  have base_of : ∀ {b : Addr} {o : Obj}, s₁.heap.get? b = some o → H b = none → (hidT s₁.heap H).get? b = some o := fun e n => hidT_get e n
  have nsK : ∀ {b : Addr} {m : Str → Option Value}, s₁.heap.Ns b m → (hidT s₁.heap H).Ns b m := fun {b m} ⟨o, es, ep, e, d, r⟩ => ⟨o, es, ep, base_of e (noA e d), d, r⟩
  have nK : ∀ b o, K.lookup b = some o → H b = none := fun b o e => by
    cases q : H b with
    | none => rfl
    | some u =>
      rw [hK b u q] at e
      cases e
  have hKb : K.In (hidT s₁.heap H) := fun b o e => base_of (KX b o e) (nK b o e)
  have hM : Mod K mg (hidT s₁.heap H) := ⟨hKb, nsK hns, ⟨mb, nsK hb, hbb⟩, let ⟨mc, h1, h2⟩ := hlim; ⟨mc, nsK h1, h2⟩⟩
  have e0 : Env0 P w K mg (hidT s₁.heap H) callerA [] s₁ H := ⟨rfl, hM, fun b o e => of_hidT e, Nat.le_of_eq (hidT_size _ _), trivial, fun b hb => absurd (show b ∈ ([] : List Addr) from hb) (by simp), hok, .of_eq hg⟩
  have hl : vals.length = ps.length := by rw [wellAll_len hwl]; exact hlen
  refine codeAny_mono ((F _ hKb (nsK hns)).run callerA [] s₁ H ⟨vals, []⟩ vals (vals.map toV) _ _ hr e0 (hbind s₁ vals hl) hV (hsp H _ hO hS)) fun r s' x => ?_
  cases r with
  | error e => exact (hCX H e s' x).elim
  | ok fl =>
    cases fl with
    | next => exact False.elim x
    | brk => exact False.elim x
    | cont => exact False.elim x
    | ret u =>
      obtain ⟨v, H', os, bare, un, hok', r', q⟩ := x
      have kept : ∀ b o, s₁.heap.get? b = some o → s'.heap.get? b = some o := fun b o e => by
        cases q2 : H b with
        | none => exact un.keep b o e q2 (by intro z; exact absurd (show b ∈ ([] : List Addr) from z) (by simp)) (by simp)
        | some u2 =>
          rcases hO b with z | ⟨ob, u3, z⟩
          · rw [q2] at z
            cases z
          · have z2 := un.frzs b ob _ z
            obtain ⟨e1, _⟩ := hok b _ z
            obtain ⟨e2, _⟩ := hok' b _ z2
            rw [e] at e1
            cases e1
            exact e2
      have KX' : K.In s'.heap := fun b o e => kept b o (KX b o e)
      obtain ⟨as, hrd⟩ := Dw.reads (R := R) (cl := cl) hok' KX' d0 v u q r'
      exact ⟨u, as, rfl, hrd, OldK.of_keep kept, os, bare⟩
theorem layable_weight {ds : List WData} (h : WData.layableAll ds = true) : ∀ d ∈ ds, d.weight ≤ 1048576 := fun d hd =>
  (PySem.W.layableW_iff.mp (List.all_eq_true.mp h d hd)).2.2
theorem encAll_len : ∀ (cs : List Codec) (a : Codec.denoteAll cs), (Codec.encAll cs a).length = cs.length
  | [], _ => rfl
  | c :: cs, a => by
    show (Codec.encAll cs a.2).length + 1 = cs.length + 1
    rw [encAll_len cs a.2]
theorem walk_spec {r : OpenSpec} {k : Nat} {q : Program} {loose : List Str} {XP : (Str → Option Value) → Heap → Prop} {YP : World → Heap → Prop} {d : DefRec} {K : Params → PySem.W.Frag} {CX : World → CXT} {ps : List Str} {sp : World → Sp}
    (hwell : r.wellSaid = true) (hdf : d.params.defaults = []) (hlen : r.args.length = ps.length) (hr : Room k callerA)
    (hY : ∀ (w : World) (h : Heap), YP w h → (K w.params).In h)
    (F : ∀ (w : World) (mg : Str → Option Value) (fa : Addr) (h : Heap), YP w h → (K w.params).In h → h.Ns mainGlobals mg → mg d.name = some (.ref fa) →
      ∃ fd : FuncData, (∀ (s : Shared) (us : List Value), us.length = ps.length → BindsTo s fd ⟨us, []⟩ (ps.zip us)) ∧
        ∀ base : Heap, (K w.params).In base → base.Ns mainGlobals mg → FnOk r.prog w (K w.params) mg base (CX w) k fa fd ps (sp w))
    (hsp : ∀ (w : World) (H : Hp) (xs : List V) (a : Codec.denoteAll r.args), OnlyF H → Codec.withinAll r.args a = true → Codec.app r.args r.asked a = true → DwAll (K w.params) H xs (Codec.encAll r.args a) →
      sp w xs H (fun v H' => Dw (K w.params) H' v (r.ret.enc (Codec.app r.args r.f a))) fun _ _ _ => False)
    (hCX : ∀ (w : World) (H : Hp) (s : Shared) (e : Value) (s' : Shared), CX w [] H s (fun _ _ _ => False) e s' → False) :
    PySem.W.WalkOS q loose XP YP r d [] (fun f vs => PySem.call f vs) := by
  intro w s_0 s₁ mg mb G Y fa o pm cd doc dV kV ho hd hcd hD hmg hg args vals as hpre hlay hrd hwl hlo
  obtain ⟨a, e1, e2⟩ := PySem.W.os_pre_some hpre
  obtain ⟨e3, hwi⟩ := Codec.encAll_of_decAll r.args args a e1
  subst e3
  have KX := hY w _ Y
  obtain ⟨fd, hb, hF⟩ := F w mg fa _ Y KX G.T.g hmg
  refine PySem.W.enter_call (codeAny_mono (spec_call (R := []) (cl := classAt s_0.heap) (d0 := r.ret.enc (Codec.app r.args r.f a)) KX G.T.g G.T.b G.T.builtins G.T.nolimit hg hwl (pl_encAll _ _) (layable_weight hlay) hr hF hb (by rw [encAll_len]; exact hlen)
    (fun H xs hO hS => hsp w H xs a hO hwi e2 hS) fun H e s' => hCX w H s₁ e s') fun r' s' hq => ?_)
  obtain ⟨u, as', rfl, h1, h2, h3, h4⟩ := hq
  exact ⟨.inl ⟨u, _, as', rfl, fun _ => rfl, h1, (OpenSpec.post_iff hwell hwi _ _).mpr rfl, fun z => Bool.noConfusion (show false = true from z)⟩, h2, h3, h4⟩
theorem walk_specK {r : OpenSpec} {k : Nat} {q : Program} {loose : List Str} {XP : (Str → Option Value) → Heap → Prop} {YP : World → Heap → Prop} {d : DefRec} {K : Params → PySem.W.Frag} {CX : CXT} {ps : List Str} {sp : PySem.W.Frag → Sp}
    (hwell : r.wellSaid = true) (hdf : d.params.defaults = []) (hlen : r.args.length = ps.length) (hr : Room k callerA)
    (hY : ∀ (w : World) (h : Heap), YP w h → (K w.params).In h)
    (F : ∀ (w : World) (mg : Str → Option Value) (fa : Addr) (h : Heap), YP w h → (K w.params).In h → h.Ns mainGlobals mg → mg d.name = some (.ref fa) →
      ∃ fd : FuncData, (∀ (s : Shared) (us : List Value), us.length = ps.length → BindsTo s fd ⟨us, []⟩ (ps.zip us)) ∧
        ∀ base : Heap, (K w.params).In base → base.Ns mainGlobals mg → FnOk r.prog w (K w.params) mg base CX k fa fd ps (sp (K w.params)))
    (hsp : ∀ (K : PySem.W.Frag) (H : Hp) (xs : List V) (a : Codec.denoteAll r.args), OnlyF H → Codec.withinAll r.args a = true → Codec.app r.args r.asked a = true → DwAll K H xs (Codec.encAll r.args a) →
      sp K xs H (fun v H' => Dw K H' v (r.ret.enc (Codec.app r.args r.f a))) fun _ _ _ => False)
    (hCX : ∀ (H : Hp) (s : Shared) (e : Value) (s' : Shared), CX [] H s (fun _ _ _ => False) e s' → False) :
    PySem.W.WalkOS q loose XP YP r d [] (fun f vs => PySem.call f vs) :=
  walk_spec (K := K) (CX := fun _ => CX) (sp := fun w => sp (K w.params)) hwell hdf hlen hr hY F (fun w H xs a h1 h2 h3 h4 => hsp (K w.params) H xs a h1 h2 h3 h4) fun _ H s e s' => hCX H s e s'
end L2
set_option Elab.async false
set_option linter.all false
set_option maxRecDepth 100000
namespace Sh
open PySem PySem.Spec PyProof.Rows L2
theorem upd_upd (H : Hp) (a : Addr) (o u : HO) : upd (upd H a o) a u = upd H a u := by
  funext b
  unfold upd
  split <;> rfl
theorem upd_of {H : Hp} {D a : Addr} {o u : HO} (hD : H D = none) (ha : H a = some u) : upd H D o a = some u := by
  rw [upd_ne (ne_of_none ha hD)]
  exact ha
theorem atI_natE {α : Type} (xs : List α) (j : Nat) : atI xs (j : Int) = xs[j]? := by
  cases e : xs[j]? with
  | some v => exact atI_nat e
  | none =>
    have h : xs.length ≤ j := List.getElem?_eq_none_iff.mp e
    unfold atI ixN
    rw [if_pos (by omega), if_neg (by omega)]
    rfl
theorem atI_zero {α : Type} (xs : List α) : atI xs 0 = xs[0]? := atI_natE xs 0
theorem atI_two {α : Type} (xs : List α) : atI xs 2 = xs[2]? := atI_natE xs 2
theorem atI_three {α : Type} (xs : List α) : atI xs 3 = xs[3]? := atI_natE xs 3
theorem atI_one {α : Type} (xs : List α) : atI xs 1 = xs[1]? := atI_natE xs 1
theorem cxK {CX : CXT} {P : Program} {w : World} {K : PySem.W.Frag} {mg : Str → Option Value} {base : Heap} {N : List Str} {qual : Str} {scope : Scope} {f : Addr} {cd : Value} {A : Around} {outer : List Env} {s : Shared} {H : Hp} {E : XK} : (cxOf CX P w K mg base N qual scope f cd A outer s H E).K = K := rfl
section
variable {X : Cx}
theorem ixr_weak {r r' : R2} (h : IxR X r) (m : ∀ x y H Q, r' x y H Q → r x y H Q) : IxR X r' := fun value slice pins s σ H x y v u Q I rx ry q hs => h value slice pins s σ H x y v u Q I rx ry (m _ _ _ _ q) hs
theorem callr_weak {f : Value} {r r' : List V → Hp → VK → Prop} (h : CallR X f r) (m : ∀ xs H Q, r' xs H Q → r xs H Q) : CallR X f r' := fun pins s σ H xs us Q I rs q => h pins s σ H xs us Q I rs (m _ _ _ q)
def hIx : R2 := fun x y H Q => ∃ p xs i v, x = .ref p ∧ y = .int i ∧ H p = some (.lst xs) ∧ atI xs i = some v ∧ Q v H
theorem ix_lst : IxR X hIx := ixr_weak ix_list fun x y H Q ⟨p, xs, i, v, e1, e2, h, e3, q⟩ => ⟨p, xs, i, v, e1, e2, SqL.of h, e3, q⟩
def hLen : List V → Hp → VK → Prop := fun vs H Q => ∃ p ys, vs = [.ref p] ∧ H p = some (.lst ys) ∧ Q (.int ys.length) H
theorem len_lst : CallR X (.builtin "len") hLen := callr_weak call_len_seq fun xs H Q ⟨p, ys, e, h, q⟩ => ⟨p, ys, e, .inl (SqL.of h), q⟩
def hSum : List V → Hp → VK → Prop := fun vs H Q => ∃ p ys, vs = [.ref p] ∧ H p = some (.lst ys) ∧ ∃ ns : List Int, ys = ns.map V.int ∧ Q (.int ns.sum) H
theorem sum_lst (hc : X.calm = true) : CallR X (.builtin "sum") hSum := callr_weak (cr_sum hc) fun xs H Q ⟨p, ys, e, h, ns, e2, q⟩ => ⟨p, ns, e, SqL.of (e2 ▸ h), q⟩
theorem ln0 : ((0 : Nat) ≤ sizeLine) = True := eq_true (Nat.zero_le _)
theorem ln1 : ((1 : Nat) ≤ sizeLine) = True := eq_true (by decide)
theorem ln2 : ((2 : Nat) ≤ sizeLine) = True := eq_true (by decide)
theorem ln3 : ((3 : Nat) ≤ sizeLine) = True := eq_true (by decide)
theorem ln5 : ((5 : Nat) ≤ sizeLine) = True := eq_true (by decide)
def tLM (r : V → List V → Hp → VK → Prop) (to : TE) (t : TA) : TE := fun σ H Q => to σ H fun x H1 => ∃ p xs, x = .ref p ∧ H1 p = some (.lst xs) ∧ t σ H1 fun vs H2 => r (.ref p) vs H2 Q
def tLM0 (r : V → List V → Hp → VK → Prop) (to : TE) : TE := fun σ H Q => to σ H fun x H1 => ∃ p xs, x = .ref p ∧ H1 p = some (.lst xs) ∧ r (.ref p) [] H1 Q
theorem pe_lm {o e : Expr} {es : List Expr} {to : TE} {t : TA} {name : Str} {apos cpos : Pos} {id : String} {r : V → List V → Hp → VK → Prop} (slot : Slot "list" name id) (hty : typeOf (.builtin id) = pure (.type "method_descriptor")) (hm : MtR X id r) (ho : PE X o to) (ha : PA X (e :: es) t)
    (hbase : attributeBase o name X.env (eval o X.env) = eval o X.env := by rfl)
    (hfew : ((backTo cpos (starEach (e :: es) X.env)).all (fun x => !x.1) && (backToKw cpos (keywordEach [] X.env)).all (fun x => x.1.isSome)
      && decide ((e :: es).length + ([] : List Keyword).length + (if ([] : List Keyword).isEmpty then 0 else 1) < 30)) = true := by rfl)
    (hline : (apos.endLine == cpos.line) = true := by rfl) (hs : starEach (e :: es) X.env = (false, eval e X.env) :: starEach es X.env := by rfl) (hplain : (backTo cpos (starEach es X.env)).any (·.1) = false := by rfl) :
    PE X (.Call (.Attribute o name apos) (e :: es) [] cpos) (tLM r to t) := by
  intro pins s σ H Q I h
  refine wpAny_Call_method_late hbase hfew hline rfl (thn (ho pins s σ H _ I h) fun v s1 ⟨x, H1, I1, r1, q1⟩ => ?_)
  obtain ⟨p, xs, ex, hp, q1⟩ := q1
  subst ex
  obtain ⟨h1, h2⟩ := tyV_is I1 r1 (T := "list") (.inl ⟨rfl, xs, SqL.of hp⟩)
  refine ⟨"list", id, PySem.F.plainAttrs_list, slot, hty, h1, h2, ?_⟩
  have hA := ha cpos pins s1 σ H1 _ I1 q1
  rw [hs] at hA ⊢
  refine Calls.callWith_builtin (by show (false || (backTo cpos (starEach es X.env)).any (·.1)) = false; rw [hplain] <;> rfl) (Calls.evalArgs_plain ?_)
  exact thn hA fun us s2 ⟨vs, H2, I2, r2, q2⟩ => hm pins s2 σ H2 _ vs v us Q I2 r1 r2 q2
theorem pe_lm0 {o : Expr} {to : TE} {name : Str} {apos cpos : Pos} {id : String} {r : V → List V → Hp → VK → Prop} (slot : Slot "list" name id) (hty : typeOf (.builtin id) = pure (.type "method_descriptor")) (hm : MtR X id r) (ho : PE X o to)
    (hbase : attributeBase o name X.env (eval o X.env) = eval o X.env := by rfl) (hline : (apos.endLine == cpos.line) = true := by rfl) : PE X (.Call (.Attribute o name apos) [] [] cpos) (tLM0 r to) := by
  intro pins s σ H Q I h
  refine wpAny_Call_method0_late hbase hline (thn (ho pins s σ H _ I h) fun v s1 ⟨x, H1, I1, r1, q1⟩ => ?_)
  obtain ⟨p, xs, ex, hp, q1⟩ := q1
  subst ex
  obtain ⟨h1, h2⟩ := tyV_is I1 r1 (T := "list") (.inl ⟨rfl, xs, SqL.of hp⟩)
  exact ⟨"list", id, PySem.F.plainAttrs_list, slot, hty, h1, h2, Calls.callWith_builtin rfl (PySem.evalArgs_none (hm pins s1 σ H1 _ [] v [] Q I1 r1 .nil q1))⟩
theorem pe_fldK {K : PySem.W.Frag} {e : Expr} {f : Str} {pos : Pos} {ta : TE} (he : PE X e ta) (hb : attributeBase e f X.env (eval e X.env) = eval e X.env := by rfl) (hK : X.K = K := by rfl) : PE X (.Attribute e f pos) (tFld K ta f) := by
  subst hK
  exact pe_fld he hb
end
section
variable {X : Cx} {tg : Expr}
def iLst (K : PySem.W.Frag) (tl : TE) : TI := fun σ H R => tl σ H fun x H1 => ∃ a xs, x = .ref a ∧ H1 a = some (.lst xs) ∧ R (Itl K a) H1
theorem pi_lst {l : Expr} {tl : TE} (hl : PE X l tl) : PI X tg l (iLst X.K tl) := by
  intro pins s σ H R I h
  refine thn (hl pins s σ H _ I h) fun v s1 ⟨x, H1, I1, r1, q1⟩ => ?_
  obtain ⟨a, xs, e, hq, q⟩ := q1
  subst e
  cases r1
  obtain ⟨its, rv, p, hz⟩ := I1.list (SqL.of hq)
  refine wpAny_pyIter_list p.isList ?_
  refine ⟨s1.heap.objs.size, [s1.heap.objs.size], _, _, H1, rfl, I1.kept (t' := s1.toks) fun b o e => Heap.get?_push_of_some _ e, turn_list a _, ⟨_, Heap.get?_push_size _ rfl, rfl, rfl⟩, fun b hb => ?_, q⟩
  have e : b = s1.heap.objs.size := by simpa using hb
  subst e
  exact I1.fpOk (Nat.le_refl _) (I1.hok.fresh (Nat.le_refl _))
end
theorem for_enum {K : PySem.W.Frag} {a : Addr} {xs : List V} {g : TG} {tb : TS} {D : Ends} {σ : L2.St} {H : Hp} (Pv : Nat → L2.St → Hp → Prop) (h0 : Pv 0 σ H) (hl : ∀ i σ H, i ≤ xs.length → Pv i σ H → SqL K H a xs)
    (hs : ∀ i x σ H T, xs[i]? = some x → H T = none → Pv i σ H → g (.ref T) σ (upd H T (.tup [.int (i : Nat), x])) fun σ2 H2 => tb { D with nx := Pv (i + 1), ct := Pv (i + 1), bk := D.nx } σ2 H2) (hd : ∀ σ H, Pv xs.length σ H → D.nx σ H) :
    ∃ W : Nat → Nat → L2.St → Hp → Prop, (∃ m, W 0 m σ H) ∧ ∀ i m σ H, W i m σ H →
      ((Ite K a).stop i H ∧ D.nx σ H) ∨ ((Ite K a).go i H ∧ ∃ N : L2.St → Hp → Prop, (∀ σ' H', N σ' H' → ∃ m', m' < m ∧ W (i + 1) m' σ' H') ∧ ∀ x H', (Ite K a).yld i H x H' → g x σ H' fun σ2 H2 => tb { D with nx := N, ct := N, bk := D.nx } σ2 H2) := by
  refine ⟨fun i m σ H => m = xs.length - i ∧ i ≤ xs.length ∧ Pv i σ H, ⟨xs.length, by simp, Nat.zero_le _, h0⟩, ?_⟩
  rintro i m σ H ⟨rfl, hi, p⟩
  have q := hl i σ H hi p
  by_cases hlt : i < xs.length
  · refine .inr ⟨⟨xs, xs[i], q, by simp [hlt]⟩, Pv (i + 1), fun σ' H' p' => ⟨xs.length - (i + 1), by omega, rfl, hlt, p'⟩, fun x H' y => ?_⟩
    obtain ⟨T, x', e, hT, e2, y⟩ := y
    subst e e2
    exact hs i x' σ _ T (y xs q) hT p
  · have e : i = xs.length := by omega
    subst e
    exact .inl ⟨⟨xs, q, Nat.le_refl _⟩, hd σ H p⟩
abbrev LcGoal (J : It) (g : TG) (tt : TT) (te : TE) (vs : List Nat) (σ : L2.St) (D : Addr) (H1 : Hp) (Q : VK) : Prop :=
  ∃ W : Nat → Nat → Hp → Prop, (∃ m, W 0 m (upd H1 D (.lst []))) ∧ ∀ i m H, W i m H →
  (J.stop i H ∧ Q (.ref D) H) ∨ (J.go i H ∧ ∃ Nx : Hp → Prop, (∀ H', Nx H' → ∃ m', m' < m ∧ W (i + 1) m' H') ∧ ∀ x H', J.yld i H x H' → g x (wipe σ vs) H' fun σ2 H2 => wipe σ2 vs = wipe σ vs ∧ tt σ2 H2 fun b H3 =>
    if b = true then te σ2 H3 fun y H4 => ∃ acc, H4 D = some (.lst acc) ∧ acc.length < sizeLine ∧ Nx (upd H4 D (.lst (acc ++ [y]))) else Nx H3)
theorem lc_list {K : PySem.W.Frag} {a D : Addr} {xs : List V} {g : TG} {tt : TT} {te : TE} {vs : List Nat} {σ : L2.St} {H1 : Hp} {Q : VK} (Pv : Nat → Hp → Prop) (h0 : Pv 0 (upd H1 D (.lst []))) (hl : ∀ i H, i ≤ xs.length → Pv i H → SqL K H a xs)
    (hs : ∀ i x H, xs[i]? = some x → Pv i H → g x (wipe σ vs) H fun σ2 H2 => wipe σ2 vs = wipe σ vs ∧ tt σ2 H2 fun b H3 =>
      if b = true then te σ2 H3 fun y H4 => ∃ acc, H4 D = some (.lst acc) ∧ acc.length < sizeLine ∧ Pv (i + 1) (upd H4 D (.lst (acc ++ [y]))) else Pv (i + 1) H3)
    (hd : ∀ H, Pv xs.length H → Q (.ref D) H) : LcGoal (Itl K a) g tt te vs σ D H1 Q := by
  refine ⟨fun i m H => m = xs.length - i ∧ i ≤ xs.length ∧ Pv i H, ⟨xs.length, by simp, Nat.zero_le _, h0⟩, ?_⟩
  rintro i m H ⟨rfl, hi, p⟩
  have q := hl i H hi p
  by_cases hlt : i < xs.length
  · refine .inr ⟨⟨xs, xs[i], q, by simp [hlt]⟩, Pv (i + 1), fun H' p' => ⟨xs.length - (i + 1), by omega, rfl, hlt, p'⟩, fun x H' y => ?_⟩
    obtain ⟨e, y⟩ := y
    subst e
    exact hs i x _ (y xs q) p
  · have e : i = xs.length := by omega
    subst e
    exact .inl ⟨⟨xs, q, Nat.le_refl _⟩, hd H p⟩
theorem lc_range {D : Addr} {lo : Int} {k : Nat} {g : TG} {tt : TT} {te : TE} {vs : List Nat} {σ : L2.St} {H1 : Hp} {Q : VK} (Pv : Nat → Hp → Prop) (h0 : Pv 0 (upd H1 D (.lst [])))
    (hs : ∀ i H, i < k → Pv i H → g (.int (lo + i)) (wipe σ vs) H fun σ2 H2 => wipe σ2 vs = wipe σ vs ∧ tt σ2 H2 fun b H3 =>
      if b = true then te σ2 H3 fun y H4 => ∃ acc, H4 D = some (.lst acc) ∧ acc.length < sizeLine ∧ Pv (i + 1) (upd H4 D (.lst (acc ++ [y]))) else Pv (i + 1) H3)
    (hd : ∀ H, Pv k H → Q (.ref D) H) : LcGoal (Itr lo k) g tt te vs σ D H1 Q := by
  refine ⟨fun i m H => m = k - i ∧ i ≤ k ∧ Pv i H, ⟨k, by simp, Nat.zero_le _, h0⟩, ?_⟩
  rintro i m H ⟨rfl, hi, p⟩
  by_cases hlt : i < k
  · refine .inr ⟨hlt, Pv (i + 1), fun H' p' => ⟨k - (i + 1), by omega, rfl, hlt, p'⟩, fun x H' y => ?_⟩
    obtain ⟨e, y⟩ := y
    subst e y
    exact hs i _ hlt p
  · have e : i = k := by omega
    subst e
    exact .inl ⟨Nat.le_refl _, hd H p⟩
theorem tfor_at {wi : TI} {g : TG} {tb : TS} {D : Ends} {σ : L2.St} {H : Hp} {J : It} (h : ∀ R : It → Hp → Prop, R J H → wi σ H R)
    (hW : ∃ W : Nat → Nat → L2.St → Hp → Prop, (∃ m, W 0 m σ H) ∧ ∀ i m σ H, W i m σ H → (J.stop i H ∧ D.nx σ H) ∨ (J.go i H ∧ ∃ N : L2.St → Hp → Prop, (∀ σ' H', N σ' H' → ∃ m', m' < m ∧ W (i + 1) m' σ' H') ∧ ∀ x H', J.yld i H x H' → g x σ H' fun σ2 H2 => tb { D with nx := N, ct := N, bk := D.nx } σ2 H2)) : tFor wi g tb D σ H := h _ hW
theorem tlc_at {wi : TI} {g : TG} {tt : TT} {te : TE} {vs : List Nat} {σ : L2.St} {H : Hp} {Q : VK} {J : It} (h : ∀ R : It → Hp → Prop, R J H → wi σ H R) (hg : ∀ D, H D = none → LcGoal J g tt te vs σ D H Q) : tLc wi g tt te vs σ H Q := h _ hg
end Sh
set_option Elab.async false
set_option linter.all false
/-! Bits: the program's ints against the specification's naturals. -/
namespace Sh
open PySem PyProof.Rows
theorem and_nat (a b : Nat) : Builtin.bitAnd (a : Int) (b : Int) = ((a &&& b : Nat) : Int) := by
  rw [bitAnd_pp (Int.natCast_nonneg _) (Int.natCast_nonneg _)]
  rfl
theorem or_nat (a b : Nat) : Builtin.bitOr (a : Int) (b : Int) = ((a ||| b : Nat) : Int) := by
  unfold Builtin.bitOr Builtin.bitAnd Builtin.bitNot
  have h1 : decide (0 ≤ (-(a : Int) - 1)) = false := decide_eq_false (by omega)
  have h2 : decide (0 ≤ (-(b : Int) - 1)) = false := decide_eq_false (by omega)
  rw [h1, h2]
  show -(-(((-(-(a : Int) - 1) - 1).toNat ||| (-(-(b : Int) - 1) - 1).toNat : Nat) : Int) - 1) - 1 = _
  have e1 : (-(-(a : Int) - 1) - 1).toNat = a := by omega
  have e2 : (-(-(b : Int) - 1) - 1).toNat = b := by omega
  rw [e1, e2]
  omega
theorem shr_nat (a k : Nat) : (a : Int) / 2 ^ k = ((a >>> k : Nat) : Int) := by
  rw [Nat.shiftRight_eq_div_pow]
  norm_cast
theorem shl_nat (k : Nat) : (1 : Int) * 2 ^ k = ((2 ^ k : Nat) : Int) := by
  rw [Int.one_mul]
  norm_cast
/-- a without the bits of b -/
theorem andnot_nat (a b : Nat) : Builtin.bitAnd (a : Int) (Builtin.bitNot (b : Int)) = ((a - (a &&& b) : Nat) : Int) := by
  unfold Builtin.bitAnd Builtin.bitNot
  have h1 : decide (0 ≤ (a : Int)) = true := decide_eq_true (by omega)
  have h2 : decide (0 ≤ (-(b : Int) - 1)) = false := decide_eq_false (by omega)
  rw [h1, h2]
  show (a : Int) - (((a : Int).toNat &&& (-(-(b : Int) - 1) - 1).toNat : Nat) : Int) = _
  have e2 : (-(-(b : Int) - 1) - 1).toNat = b := by omega
  have e3 : (a : Int).toNat = a := by omega
  have := @Nat.and_le_left a b
  rw [e2, e3]
  omega
theorem and1_nat (a : Nat) : Builtin.bitAnd (a : Int) 1 = ((a % 2 : Nat) : Int) := by
  rw [show (1 : Int) = ((1 : Nat) : Int) from rfl, and_nat, Nat.and_one_is_mod]
/-- (m >> k) & 1 == 1 -/
theorem bit_nat (m k : Nat) : decide (((((m >>> k) % 2 : Nat)) : Int) = 1) = m.testBit k := by
  rw [Nat.testBit, Nat.one_and_eq_mod_two]
  have h := Nat.mod_two_eq_zero_or_one (m >>> k)
  rcases h with h | h <;> rw [h] <;> rfl
/-! a treaty more, a treaty less -/
theorem and_two_pow (b a : Nat) : b &&& 2 ^ a = if b.testBit a = true then 2 ^ a else 0 := by
  apply Nat.eq_of_testBit_eq
  intro i
  rw [Nat.testBit_and, Nat.testBit_two_pow]
  by_cases h : a = i
  · subst h
    cases e : b.testBit a <;> simp
  · cases e : b.testBit a <;> simp [h]
theorem or_add {b a : Nat} (h : b.testBit a = false) : b ||| 2 ^ a = b + 2 ^ a := by
  have e : b &&& 2 ^ a = 0 := by rw [and_two_pow, h]; rfl
  have q := bitOr_and (b : Int) ((2 ^ a : Nat) : Int)
  rw [or_nat, and_nat, e] at q
  omega
theorem andnot_sub {b a : Nat} (h : b.testBit a = true) : b - (b &&& 2 ^ a) = b - 2 ^ a := by
  rw [and_two_pow, if_pos h]
/-! how many -/
def pop (m : Nat) : Nat := if h : m = 0 then 0 else m % 2 + pop (m / 2)
termination_by m
decreasing_by omega
theorem pop_zero : pop 0 = 0 := by unfold pop; rfl
theorem pop_pos {m : Nat} (h : m ≠ 0) : pop m = m % 2 + pop (m / 2) := by
  rw [pop, dif_neg h]
theorem pop_eq (m : Nat) : pop m = m % 2 + pop (m / 2) := by
  by_cases h : m = 0
  · subst h; simp [pop_zero]
  · exact pop_pos h
def cnt (k m : Nat) : Nat := ((List.range k).filter fun i => m.testBit i).length
theorem cnt_succ (k m : Nat) : cnt (k + 1) m = m % 2 + cnt k (m / 2) := by
  unfold cnt
  rw [List.range_succ_eq_map, List.filter_cons, List.filter_map]
  have e : ((fun i => m.testBit i) ∘ Nat.succ) = fun i => (m / 2).testBit i := by
    funext i
    show m.testBit (i + 1) = _
    rw [Nat.testBit_succ]
  rw [e, Nat.testBit_zero]
  have h := Nat.mod_two_eq_zero_or_one m
  rcases h with h | h
  · rw [h]
    simp
  · rw [h]
    simp
    omega
theorem cnt_pop : ∀ (k m : Nat), m < 2 ^ k → cnt k m = pop m
  | 0, m, h => by
    have e : m = 0 := by
      have : (2 : Nat) ^ 0 = 1 := rfl
      omega
    subst e
    rw [pop_zero]
    rfl
  | k + 1, m, h => by
    rw [cnt_succ, pop_eq m, cnt_pop k (m / 2) (by rw [Nat.pow_succ] at h; omega)]
theorem count_pop {m : Nat} (h : m < 65536) : Km484.count m = pop m := cnt_pop 16 m h
/-- one more, one less -/
theorem cnt_or : ∀ (k : Nat) {m a : Nat}, a < k → m.testBit a = false → cnt k (m ||| 2 ^ a) = cnt k m + 1
  | 0, _, _, h, _ => by omega
  | k + 1, m, 0, _, hb => by
    rw [cnt_succ, cnt_succ]
    rw [Nat.testBit_zero] at hb
    have h0 : m % 2 = 0 := by
      have := Nat.mod_two_eq_zero_or_one m
      rcases this with h | h
      · exact h
      · rw [h] at hb; simp at hb
    have e : m ||| 2 ^ 0 = m + 1 := or_add (by rw [Nat.testBit_zero]; exact hb)
    rw [e]
    have e1 : (m + 1) % 2 = 1 := by omega
    have e2 : (m + 1) / 2 = m / 2 := by omega
    rw [e1, e2, h0]
    omega
  | k + 1, m, a + 1, h, hb => by
    rw [cnt_succ, cnt_succ]
    rw [Nat.testBit_succ] at hb
    have ih := cnt_or k (m := m / 2) (a := a) (by omega) hb
    have e : m ||| 2 ^ (a + 1) = m + 2 ^ (a + 1) := or_add (by rw [Nat.testBit_succ]; exact hb)
    have e' : m / 2 ||| 2 ^ a = m / 2 + 2 ^ a := or_add hb
    rw [e, Nat.pow_succ]
    have e1 : (m + 2 ^ a * 2) % 2 = m % 2 := by omega
    have e2 : (m + 2 ^ a * 2) / 2 = m / 2 + 2 ^ a := by omega
    rw [e1, e2, ← e', ih]
    omega
theorem testBit_sub {m a : Nat} (h : m.testBit a = true) : 2 ^ a ≤ m ∧ (m - 2 ^ a).testBit a = false ∧ (m - 2 ^ a) ||| 2 ^ a = m := by
  have le : 2 ^ a ≤ m := Nat.ge_two_pow_of_testBit h
  have q : (m - 2 ^ a).testBit a = false := by
    have e := Nat.testBit_two_pow_add_eq (m - 2 ^ a) a
    rw [show 2 ^ a + (m - 2 ^ a) = m by omega, h] at e
    cases z : (m - 2 ^ a).testBit a
    · rfl
    · rw [z] at e; cases e
  refine ⟨le, q, ?_⟩
  rw [or_add q]
  omega
theorem cnt_sub (k : Nat) {m a : Nat} (ha : a < k) (h : m.testBit a = true) : cnt k (m - 2 ^ a) = cnt k m - 1 := by
  obtain ⟨_, q, e⟩ := testBit_sub h
  have z := cnt_or k ha q
  rw [e] at z
  omega
end Sh
set_option Elab.async false
set_option linter.all false
/-! The specification's own lemmas: nothing of the program. -/
namespace Sh
open Km484
/-! ### sets told as numbers -/
theorem foldl_add (l : List Nat) : ∀ a : Nat, l.foldl (· + ·) a = a + l.sum := by
  induction l with
  | nil => intro a; simp
  | cons x r ih => intro a; rw [List.foldl_cons, ih, List.sum_cons]; omega
theorem bits_sum (l : List Nat) : bits l = (l.map fun i => 2 ^ i).sum := by
  unfold bits
  rw [foldl_add]
  omega
theorem bits_nil : bits [] = 0 := rfl
theorem bits_cons (x : Nat) (l : List Nat) : bits (x :: l) = bits l + 2 ^ x := by
  rw [bits_sum, bits_sum, List.map_cons, List.sum_cons]
  omega
theorem bits_snoc (l : List Nat) (x : Nat) : bits (l ++ [x]) = bits l + 2 ^ x := by
  rw [bits_sum, bits_sum, List.map_append, List.sum_append]
  simp
theorem bits_bit : ∀ {l : List Nat}, l.Nodup → ∀ j, (bits l).testBit j = decide (j ∈ l)
  | [], _, j => by simp [bits_nil]
  | x :: l, h, j => by
    obtain ⟨h1, h2⟩ := List.nodup_cons.mp h
    have e : (bits l).testBit x = false := by rw [bits_bit h2 x]; simpa using h1
    rw [bits_cons, ← or_add e, Nat.testBit_or, Nat.testBit_two_pow, bits_bit h2 j]
    rw [Bool.eq_iff_iff]
    simp only [Bool.or_eq_true, decide_eq_true_eq, List.mem_cons]
    constructor
    · rintro (h | h)
      · exact .inr h
      · exact .inl h.symm
    · rintro (h | h)
      · exact .inr h.symm
      · exact .inl h
theorem bits_or {l : List Nat} (h : l.Nodup) {x : Nat} (hx : x ∉ l) : bits l ||| 2 ^ x = bits (l ++ [x]) := by
  rw [bits_snoc, or_add]
  rw [bits_bit h x]
  simpa using hx
theorem bits_cnt : ∀ {l : List Nat} (k : Nat), l.Nodup → (∀ x ∈ l, x < k) → cnt k (bits l) = l.length
  | [], k, _, _ => by
    rw [bits_nil]
    unfold cnt
    simp
  | x :: l, k, h, hk => by
    obtain ⟨h1, h2⟩ := List.nodup_cons.mp h
    have e : (bits l).testBit x = false := by rw [bits_bit h2 x]; simpa using h1
    rw [bits_cons, ← or_add e, cnt_or k (hk x List.mem_cons_self) e, bits_cnt k h2 fun y hy => hk y (List.mem_cons_of_mem _ hy), List.length_cons]
theorem lt_pow_of_bits {m k : Nat} (h : ∀ j, m.testBit j = true → j < k) : m < 2 ^ k := by
  apply Nat.lt_pow_two_of_testBit
  intro i hi
  cases e : m.testBit i
  · rfl
  · exact absurd (h i e) (by omega)
theorem bits_lt {l : List Nat} {k : Nat} (h : l.Nodup) (hk : ∀ x ∈ l, x < k) : bits l < 2 ^ k := by
  apply lt_pow_of_bits
  intro j hj
  rw [bits_bit h] at hj
  exact hk j (by simpa using hj)
theorem bits_pop {l : List Nat} {k : Nat} (h : l.Nodup) (hk : ∀ x ∈ l, x < k) : pop (bits l) = l.length := by
  rw [← cnt_pop k _ (bits_lt h hk), bits_cnt k h hk]
theorem nodup_range_filter (n : Nat) (p : Nat → Bool) : ((List.range n).filter p).Nodup := List.nodup_range.sublist List.filter_sublist
theorem range_filter_succ (n : Nat) (p : Nat → Bool) : (List.range (n + 1)).filter p = (List.range n).filter p ++ (if p n = true then [n] else []) := by
  rw [List.range_succ, List.filter_append]
  congr 1
  by_cases h : p n = true
  · simp [h]
  · simp [h]
theorem count_cnt (m : Nat) : count m = cnt 16 m := rfl
/-! ### lists by place -/
theorem range_filter_map {α β : Type} (d : α) (p : α → Bool) (f : α → β) : ∀ l : List α, ((List.range l.length).filter fun i => p (l.getD i d)).map (fun i => f (l.getD i d)) = (l.filter p).map f
  | [] => rfl
  | x :: l => by
    have ih := range_filter_map d p f l
    rw [List.length_cons, List.range_succ_eq_map, List.filter_cons, List.filter_map]
    have e1 : ((fun i => p ((x :: l).getD i d)) ∘ Nat.succ) = fun i => p (l.getD i d) := by funext i; rfl
    rw [e1]
    have e2 : ((List.map Nat.succ ((List.range l.length).filter fun i => p (l.getD i d))).map fun i => f ((x :: l).getD i d)) = (l.filter p).map f := by
      rw [List.map_map, ← ih]
      rfl
    show (if p x = true then _ else _ : List Nat).map _ = _
    by_cases h : p x = true
    · rw [if_pos h, List.map_cons, e2, List.filter_cons, if_pos h, List.map_cons]
      rfl
    · rw [if_neg h, e2, List.filter_cons, if_neg h]
/-! ### the book as it may be -/
structure StOk (t n i : Nat) (s : State_) : Prop where
  bnd : s.bound < 2 ^ t
  fre : s.free < 2 ^ t
  gone : s.there = false → s.bound = 0 ∧ s.free = 0 ∧ s.owes = 0
  par : ∀ p, s.parent = some p → p < i
  tak : ∀ k, s.taken = some k → k < n
  tk : s.there = s.taken.isNone
def owed (l : List State_) : Nat := (l.map (·.owes)).sum
def gone (l : List State_) : Nat := (l.filter fun s => !s.there).length
/-- when each was taken up: who took it up was there longer -/
def Timed (l : List State_) (tm : Nat → Nat) : Prop := ∀ i s, l[i]? = some s → (s.there = true → tm i = 12) ∧ (s.there = false → tm i < gone l) ∧ ∀ k, s.taken = some k → tm i < tm k
structure BookOk (b : Book) : Prop where
  t1 : 1 ≤ b.t
  t8 : b.t ≤ 8
  n12 : b.states.length ≤ 12
  st : ∀ i s, b.states[i]? = some s → StOk b.t b.states.length i s
  tot : owed b.states ≤ 10000000
  time : ∃ tm, Timed b.states tm
theorem at_some {b : Book} {i : Nat} {s : State_} (h : b.states[i]? = some s) : b.at_ i = s := by
  unfold Book.at_
  rw [List.getD_eq_getElem?_getD, h]
  rfl
theorem at_none {b : Book} {i : Nat} (h : b.states[i]? = none) : b.at_ i = ⟨false, 0, 0, 0, none, none⟩ := by
  unfold Book.at_
  rw [List.getD_eq_getElem?_getD, h]
  rfl
theorem there_some {b : Book} {i : Nat} (h : b.there i = true) : ∃ s, b.states[i]? = some s ∧ s.there = true ∧ b.at_ i = s := by
  cases e : b.states[i]? with
  | none =>
    unfold Book.there at h
    rw [at_none e] at h
    cases h
  | some s =>
    refine ⟨s, rfl, ?_, at_some e⟩
    unfold Book.there at h
    rw [at_some e] at h
    exact h
theorem alive_length (b : Book) : b.alive.length = (b.states.filter (·.there)).length := by
  have e := range_filter_map (⟨false, 0, 0, 0, none, none⟩ : State_) (·.there) (fun _ => ()) b.states
  have q := congrArg List.length e
  rw [List.length_map, List.length_map] at q
  exact q
theorem sum_filter_zero {α : Type} (p : α → Bool) (f : α → Nat) : ∀ l : List α, (∀ x ∈ l, p x = false → f x = 0) → ((l.filter p).map f).sum = (l.map f).sum
  | [], _ => rfl
  | x :: l, h => by
    have ih := sum_filter_zero p f l fun y hy => h y (List.mem_cons_of_mem _ hy)
    rw [List.filter_cons, List.map_cons, List.sum_cons]
    by_cases q : p x = true
    · rw [if_pos q, List.map_cons, List.sum_cons, ih]
    · rw [if_neg q, ih, h x List.mem_cons_self (by simpa using q)]
      omega
theorem total_owed {b : Book} (ok : BookOk b) : b.total = owed b.states := by
  unfold Book.total
  rw [foldl_add, Nat.zero_add]
  have e := range_filter_map (⟨false, 0, 0, 0, none, none⟩ : State_) (·.there) (·.owes) b.states
  refine (congrArg List.sum e).trans (sum_filter_zero _ _ _ fun s hs hp => ?_)
  obtain ⟨i, hi⟩ := List.mem_iff_getElem?.mp hs
  exact ((ok.st i s hi).gone hp).2.2
theorem sum_set_nat : ∀ {l : List Nat} {j z y : Nat}, l[j]? = some z → (l.set j y).sum + z = l.sum + y
  | [], j, z, y, h => by simp at h
  | a :: r, 0, z, y, h => by
    have e : a = z := Option.some.inj h
    subst e
    show (y :: r).sum + a = (a :: r).sum + y
    rw [List.sum_cons, List.sum_cons]
    omega
  | a :: r, j + 1, z, y, h => by
    have ih := sum_set_nat (l := r) (j := j) (z := z) (y := y) h
    show (a :: r.set j y).sum + z = (a :: r).sum + y
    rw [List.sum_cons, List.sum_cons]
    omega
theorem owed_set {l : List State_} {i : Nat} {s s' : State_} (h : l[i]? = some s) : owed (l.set i s') + s.owes = owed l + s'.owes := by
  unfold owed
  rw [List.map_set]
  exact sum_set_nat (by rw [List.getElem?_map, h]; rfl)
theorem owed_snoc (l : List State_) (s : State_) : owed (l ++ [s]) = owed l + s.owes := by
  unfold owed
  rw [List.map_append, List.sum_append]
  simp
theorem le_sum : ∀ {l : List Nat} {j z : Nat}, l[j]? = some z → z ≤ l.sum
  | [], _, _, h => by simp at h
  | a :: r, 0, z, h => by
    have e : a = z := Option.some.inj h
    subst e
    rw [List.sum_cons]
    omega
  | a :: r, j + 1, z, h => by
    have ih := le_sum (l := r) (j := j) (z := z) h
    rw [List.sum_cons]
    omega
theorem owes_le {l : List State_} {i : Nat} {s : State_} (h : l[i]? = some s) : s.owes ≤ owed l := le_sum (by rw [List.getElem?_map, h]; rfl)
/-! ### it stays so -/
theorem gone_le (l : List State_) : gone l ≤ l.length := List.length_filter_le _ _
theorem gone_lt : ∀ {l : List State_} {i : Nat} {s : State_}, l[i]? = some s → s.there = true → gone l < l.length
  | [], _, _, h, _ => by simp at h
  | a :: r, 0, s, h, ht => by
    have e : a = s := Option.some.inj h
    subst e
    have q := gone_le r
    unfold gone at q ⊢
    rw [List.filter_cons, if_neg (by simp [ht]), List.length_cons]
    omega
  | a :: r, j + 1, s, h, ht => by
    have ih := gone_lt (l := r) (i := j) (s := s) h ht
    unfold gone at ih ⊢
    rw [List.filter_cons, List.length_cons]
    split
    · rw [List.length_cons]; omega
    · omega
theorem gone_set : ∀ {l : List State_} {i : Nat} {s s' : State_}, l[i]? = some s → s'.there = s.there → gone (l.set i s') = gone l
  | [], _, _, _, h, _ => by simp at h
  | a :: r, 0, s, s', h, ht => by
    have e : a = s := Option.some.inj h
    subst e
    unfold gone
    rw [List.set_cons_zero, List.filter_cons, List.filter_cons, ht]
    split <;> rfl
  | a :: r, j + 1, s, s', h, ht => by
    have ih := gone_set (l := r) (i := j) (s := s) h ht
    unfold gone at ih ⊢
    rw [List.set_cons_succ, List.filter_cons, List.filter_cons]
    split
    · rw [List.length_cons, List.length_cons, ih]
    · exact ih
theorem gone_out : ∀ {l : List State_} {i : Nat} {s s' : State_}, l[i]? = some s → s.there = true → s'.there = false → gone (l.set i s') = gone l + 1
  | [], _, _, _, h, _, _ => by simp at h
  | a :: r, 0, s, s', h, h1, h2 => by
    have e : a = s := Option.some.inj h
    subst e
    unfold gone
    rw [List.set_cons_zero, List.filter_cons, List.filter_cons, h1, h2]
    rfl
  | a :: r, j + 1, s, s', h, h1, h2 => by
    have ih := gone_out (l := r) (i := j) (s := s) h h1 h2
    unfold gone at ih ⊢
    rw [List.set_cons_succ, List.filter_cons, List.filter_cons]
    split
    · rw [List.length_cons, List.length_cons, ih]
    · exact ih
theorem gone_snoc {l : List State_} {s : State_} (h : s.there = true) : gone (l ++ [s]) = gone l := by
  unfold gone
  rw [List.filter_append, List.filter_cons, if_neg (by simp [h])]
  simp
theorem get_set {α : Type} {l : List α} {i j : Nat} {x y : α} (h : (l.set i x)[j]? = some y) : (j = i ∧ y = x ∧ i < l.length) ∨ (j ≠ i ∧ l[j]? = some y) := by
  by_cases e : i = j
  · subst e
    have hl : i < l.length := by
      have q := (List.getElem?_eq_some_iff.mp h).1
      rw [List.length_set] at q
      exact q
    rw [List.getElem?_set_self hl] at h
    exact .inl ⟨rfl, (Option.some.inj h).symm, hl⟩
  · rw [List.getElem?_set_ne e] at h
    exact .inr ⟨fun q => e q.symm, h⟩
theorem get_snoc {α : Type} {l : List α} {j : Nat} {x y : α} (h : (l ++ [x])[j]? = some y) : (j = l.length ∧ y = x) ∨ (j < l.length ∧ l[j]? = some y) := by
  by_cases hj : j < l.length
  · rw [List.getElem?_append_left hj] at h
    exact .inr ⟨hj, h⟩
  · rw [List.getElem?_append_right (by omega)] at h
    by_cases e : j - l.length = 0
    · rw [e] at h
      exact .inl ⟨by omega, (Option.some.inj h).symm⟩
    · rw [List.getElem?_eq_none (by simp; omega)] at h
      cases h
theorem BookOk.set {b : Book} (ok : BookOk b) {i : Nat} {s s' : State_} (h : b.states[i]? = some s) (ht : s'.there = s.there) (hp : s'.parent = s.parent) (hk : s'.taken = s.taken) (h1 : s'.bound < 2 ^ b.t) (h2 : s'.free < 2 ^ b.t)
    (hg : s'.there = false → s'.bound = 0 ∧ s'.free = 0 ∧ s'.owes = 0) (ho : owed (b.states.set i s') ≤ 10000000) : BookOk (b.set i s') := by
  refine ⟨ok.t1, ok.t8, ?_, fun j x hx => ?_, ho, ?_⟩
  · show (b.states.set i s').length ≤ 12
    rw [List.length_set]
    exact ok.n12
  · show StOk b.t (b.states.set i s').length j x
    rw [List.length_set]
    rcases get_set hx with ⟨e1, e2, _⟩ | ⟨_, hx⟩
    · subst e1 e2
      have q := ok.st _ s h
      exact ⟨h1, h2, hg, fun p e => q.par p (hp ▸ e), fun k e => q.tak k (hk ▸ e), by rw [ht, hk]; exact q.tk⟩
    · exact ok.st j x hx
  · obtain ⟨tm, T⟩ := ok.time
    refine ⟨tm, fun j x hx => ?_⟩
    show _ ∧ (_ → tm j < gone (b.states.set i s')) ∧ _
    rw [gone_set h ht]
    rcases get_set hx with ⟨e1, e2, _⟩ | ⟨_, hx⟩
    · subst e1 e2
      obtain ⟨a1, a2, a3⟩ := T _ s h
      exact ⟨fun e => a1 (ht ▸ e), fun e => a2 (ht ▸ e), fun k e => a3 k (hk ▸ e)⟩
    · exact T j x hx
theorem owed_nil : owed [] = 0 := rfl
def tmPut (tm : Nat → Nat) (m v : Nat) : Nat → Nat := fun x => if x = m then v else tm x
theorem tmPut_same (tm : Nat → Nat) (m v : Nat) : tmPut tm m v m = v := if_pos rfl
theorem tmPut_ne {tm : Nat → Nat} {m v x : Nat} (h : x ≠ m) : tmPut tm m v x = tm x := if_neg h
theorem opened_ok {k t : Nat} (h1 : 1 ≤ t) (h2 : t ≤ 8) (h3 : k ≤ 4) : BookOk (opened k t) := by
  have at_ : ∀ (i : Nat) (s : State_), (opened k t).states[i]? = some s → s = ⟨true, 0, 0, 0, none, none⟩ := fun i s h => by
    have h : (List.replicate k (⟨true, 0, 0, 0, none, none⟩ : State_))[i]? = some s := h
    rw [List.getElem?_replicate] at h
    split at h
    · exact (Option.some.inj h).symm
    · cases h
  refine ⟨h1, h2, ?_, fun i s h => ?_, ?_, ⟨fun _ => 12, fun i s h => ?_⟩⟩
  · show (List.replicate k _).length ≤ 12
    rw [List.length_replicate]
    omega
  · have e := at_ i s h
    subst e
    exact ⟨Nat.two_pow_pos _, Nat.two_pow_pos _, fun e => (by cases e), fun p e => (by cases e), fun p e => (by cases e), rfl⟩
  · show ((List.replicate k _).map _).sum ≤ _
    rw [List.map_replicate, List.sum_replicate_nat]
    simp
  · have e := at_ i s h
    subst e
    exact ⟨fun _ => rfl, fun e => (by cases e), fun p e => (by cases e)⟩
theorem parted_ok {b : Book} (ok : BookOk b) {i mode p q : Nat} {s : State_} (h : b.states[i]? = some s) (ht : s.there = true) (hn : b.states.length < 12) : BookOk (b.parted i mode p q) := by
  have hs := ok.st i s h
  have hi : i < b.states.length := (List.getElem?_eq_some_iff.mp h).1
  have hk : s.owes * p / (p + q) ≤ s.owes := by
    by_cases z : p + q = 0
    · rw [z, Nat.div_zero]; omega
    · refine Nat.div_le_of_le_mul ?_
      rw [Nat.mul_comm (p + q)]
      exact Nat.mul_le_mul_left _ (by omega)
  have ow := owed_set (s' := { s with owes := s.owes * p / (p + q) }) h
  have tot := ok.tot
  show BookOk { b with states := b.states.set i { b.at_ i with owes := (b.at_ i).owes * p / (p + q) } ++ [⟨true, if mode = 1 then (b.at_ i).bound else 0, (b.at_ i).bound, (b.at_ i).owes - (b.at_ i).owes * p / (p + q), some i, none⟩] }
  rw [at_some h]
  have ok1 : BookOk (b.set i { s with owes := s.owes * p / (p + q) }) := ok.set h rfl rfl rfl hs.bnd hs.fre (fun e => (by rw [show s.there = false from e] at ht; cases ht)) (by have e := ow; dsimp only at e ⊢; omega)
  refine ⟨ok.t1, ok.t8, ?_, fun j x hx => ?_, ?_, ?_⟩
  · show (_ ++ [_]).length ≤ 12
    rw [List.length_append, List.length_set, List.length_singleton]
    omega
  · show StOk b.t (_ ++ [_]).length j x
    rw [List.length_append, List.length_set, List.length_singleton]
    rcases get_snoc hx with ⟨e1, e2⟩ | ⟨_, hx⟩
    · subst e1 e2
      rw [List.length_set]
      refine ⟨?_, hs.bnd, fun e => (by cases e), fun p e => (by cases e; exact hi), fun k e => (by cases e), rfl⟩
      show (if mode = 1 then s.bound else 0) < 2 ^ b.t
      split
      · exact hs.bnd
      · exact Nat.two_pow_pos _
    · have q := ok1.st j x hx
      exact ⟨q.bnd, q.fre, q.gone, q.par, fun k e => (by have := q.tak k e; rw [show (b.set i _).states.length = (b.states.set i _).length from rfl, List.length_set] at this; omega), q.tk⟩
  · show owed (_ ++ [_]) ≤ _
    rw [owed_snoc]
    simp only at ow ⊢
    omega
  · obtain ⟨tm, T⟩ := ok1.time
    refine ⟨tmPut tm b.states.length 12, fun j x hx => ?_⟩
    show _ ∧ (_ → _ < gone (_ ++ [_])) ∧ _
    rw [gone_snoc rfl]
    rcases get_snoc hx with ⟨e1, e2⟩ | ⟨hj, hx⟩
    · subst e1 e2
      rw [List.length_set]
      exact ⟨fun _ => tmPut_same _ _ _, fun e => (by cases e), fun k e => (by cases e)⟩
    · rw [List.length_set] at hj
      obtain ⟨a1, a2, a3⟩ := T j x hx
      rw [tmPut_ne (show j ≠ b.states.length by omega)]
      refine ⟨a1, a2, fun k e => ?_⟩
      have hkl := (ok1.st j x hx).tak k e
      rw [show (b.set i _).states.length = (b.states.set i _).length from rfl, List.length_set] at hkl
      rw [tmPut_ne (show k ≠ b.states.length by omega)]
      exact a3 k e
theorem joined_ok {b : Book} (ok : BookOk b) {i j mode : Nat} {s r : State_} (h : b.states[i]? = some s) (ht : s.there = true) (h' : b.states[j]? = some r) (ht' : r.there = true) (hij : i ≠ j) : BookOk (b.joined i j mode) := by
  have hs := ok.st i s h
  have hr := ok.st j r h'
  have or_lt : ∀ {a c : Nat}, a < 2 ^ b.t → c < 2 ^ b.t → a ||| c < 2 ^ b.t := fun ha hc => Nat.or_lt_two_pow ha hc
  let s1 : State_ := { s with bound := if mode = 1 then s.bound ||| r.bound else s.bound, free := s.free ||| r.bound, owes := s.owes + r.owes }
  let r1 : State_ := { r with there := false, bound := 0, free := 0, owes := 0, taken := some i }
  show BookOk ((b.set i _).set j _)
  rw [at_some h, at_some h']
  show BookOk ((b.set i s1).set j r1)
  have hl1 : (b.states.set i s1)[j]? = some r := by rw [List.getElem?_set_ne hij]; exact h'
  have ow1 := owed_set (s' := s1) h
  have ow2 := owed_set (s' := r1) hl1
  have tot := ok.tot
  have hi : i < b.states.length := (List.getElem?_eq_some_iff.mp h).1
  have g1 : gone (b.states.set i s1) = gone b.states := gone_set h rfl
  have g2 : gone ((b.states.set i s1).set j r1) = gone b.states + 1 := by rw [gone_out hl1 ht' rfl, g1]
  have get : ∀ {x : Nat} {y : State_}, ((b.states.set i s1).set j r1)[x]? = some y → (x = j ∧ y = r1) ∨ (x = i ∧ x ≠ j ∧ y = s1) ∨ (x ≠ i ∧ x ≠ j ∧ b.states[x]? = some y) := fun {x y} hx => by
    rcases get_set hx with ⟨e1, e2, _⟩ | ⟨ne, hx⟩
    · exact .inl ⟨e1, e2⟩
    · rcases get_set hx with ⟨e1, e2, _⟩ | ⟨ne2, hx⟩
      · exact .inr (.inl ⟨e1, ne, e2⟩)
      · exact .inr (.inr ⟨ne2, ne, hx⟩)
  refine ⟨ok.t1, ok.t8, ?_, fun x y hx => ?_, ?_, ?_⟩
  · show ((b.states.set i s1).set j r1).length ≤ 12
    rw [List.length_set, List.length_set]
    exact ok.n12
  · show StOk b.t ((b.states.set i s1).set j r1).length x y
    rw [List.length_set, List.length_set]
    rcases get hx with ⟨e1, e2⟩ | ⟨e1, _, e2⟩ | ⟨_, _, hx⟩
    · subst e1 e2
      exact ⟨Nat.two_pow_pos _, Nat.two_pow_pos _, fun _ => ⟨rfl, rfl, rfl⟩, hr.par, fun k e => (by cases e; exact hi), rfl⟩
    · subst e1 e2
      refine ⟨?_, or_lt hs.fre hr.bnd, fun e => ?_, hs.par, hs.tak, hs.tk⟩
      · show (if mode = 1 then s.bound ||| r.bound else s.bound) < 2 ^ b.t
        split
        · exact or_lt hs.bnd hr.bnd
        · exact hs.bnd
      · rw [show s.there = false from e] at ht
        cases ht
    · exact ok.st x y hx
  · show owed ((b.states.set i s1).set j r1) ≤ _
    have e1 : s1.owes = s.owes + r.owes := rfl
    have e2 : r1.owes = 0 := rfl
    omega
  · obtain ⟨tm, T⟩ := ok.time
    have glt := gone_lt h' ht'
    have n12 := ok.n12
    have ti : tm i = 12 := (T i s h).1 ht
    refine ⟨tmPut tm j (gone b.states), fun x y hx => ?_⟩
    show _ ∧ (_ → _ < gone ((b.states.set i s1).set j r1)) ∧ _
    rw [g2]
    rcases get hx with ⟨e1, e2⟩ | ⟨e1, ne, e2⟩ | ⟨_, ne, hx⟩
    · subst e1 e2
      rw [tmPut_same]
      refine ⟨fun e => (by cases e), fun _ => by omega, fun k e => ?_⟩
      cases e
      rw [tmPut_ne hij, ti]
      omega
    · subst e1 e2
      rw [tmPut_ne ne]
      obtain ⟨a1, a2, a3⟩ := T _ s h
      refine ⟨a1, fun e => (by rw [show s.there = false from e] at ht; cases ht), fun k e => ?_⟩
      have q := hs.tk
      rw [show s.taken = some k from e, ht] at q
      cases q
    · rw [tmPut_ne ne]
      obtain ⟨a1, a2, a3⟩ := T x y hx
      refine ⟨a1, fun e => (by have := a2 e; omega), fun k e => ?_⟩
      by_cases ek : k = j
      · rw [ek, tmPut_same]
        have q := (ok.st x y hx).tk
        rw [e] at q
        exact a2 q
      · rw [tmPut_ne ek]
        exact a3 k e
end Sh
set_option Elab.async false
set_option linter.all false
/-! The specification's desk stays as it may be; lines and takers; calls one by one. -/
namespace Sh
open Km484
structure DeskOk (d : Desk) : Prop where
  now : BookOk d.now
  past : ∀ b ∈ d.past, BookOk b ∧ b.t = d.now.t
  fut : ∀ b ∈ d.future, BookOk b ∧ b.t = d.now.t
  len : d.past.length + d.future.length ≤ 20
theorem become_ok {d : Desk} (ok : DeskOk d) {b : Book} (h : BookOk b) (ht : b.t = d.now.t) : DeskOk (d.become b) := by
  refine ⟨h, fun x hx => ?_, fun x hx => (by cases hx), ?_⟩
  · have hx : x ∈ (d.now :: d.past).take PAST := hx
    have q := List.mem_of_mem_take hx
    show BookOk x ∧ x.t = b.t
    rw [ht]
    rcases List.mem_cons.mp q with e | e
    · subst e
      exact ⟨ok.now, rfl⟩
    · exact ok.past x e
  · show ((d.now :: d.past).take PAST).length + 0 ≤ 20
    rw [List.length_take]
    have : PAST = 20 := rfl
    omega
theorem set_bound_ok {b : Book} (ok : BookOk b) {i m : Nat} {s : State_} (h : b.states[i]? = some s) (ht : s.there = true) (hm : m < 2 ^ b.t) : BookOk (b.set i { s with bound := m }) := by
  have hs := ok.st i s h
  have ow := owed_set (s' := { s with bound := m }) h
  have tot := ok.tot
  exact ok.set h rfl rfl rfl hm hs.fre (fun e => (by rw [show s.there = false from e] at ht; cases ht)) (by have e := ow; dsimp only at e ⊢; omega)
theorem set_owes_ok {b : Book} (ok : BookOk b) {i m : Nat} {s : State_} (h : b.states[i]? = some s) (ht : s.there = true) (hm : owed b.states + m ≤ 10000000 + s.owes) : BookOk (b.set i { s with owes := m }) := by
  have hs := ok.st i s h
  have ow := owed_set (s' := { s with owes := m }) h
  exact ok.set h rfl rfl rfl hs.bnd hs.fre (fun e => (by rw [show s.there = false from e] at ht; cases ht)) (by have e := ow; dsimp only at e ⊢; omega)
theorem no_false {b : Book} {i : Nat} (h : ¬ b.no i = true) : b.there i = true := by
  unfold Book.no at h
  simpa using h
theorem add_bit_lt {m t k : Nat} (h : m < 2 ^ t) (hk : k < t) (hb : m.testBit k = false) : m + 2 ^ k < 2 ^ t := by
  rw [← or_add hb]
  exact Nat.or_lt_two_pow h (Nat.pow_lt_pow_right (by decide) hk)
theorem act_ok {d : Desk} (ok : DeskOk d) (c : Call) : DeskOk (act d c).1 := by
  have nt : ∀ {t : Nat}, ¬ d.now.noTreaty t = true → t < d.now.t := fun {t} h => by
    unfold Book.noTreaty at h
    simpa using h
  cases c with
  | start k t =>
    show DeskOk (if _ then _ else _ : Desk × Ans).1
    split
    · exact ok
    · rename_i h
      simp only [not_or] at h
      have e1 : FIRST = 4 := rfl
      have e2 : TREATIES = 8 := rfl
      exact ⟨opened_ok (by omega) (by omega) (by omega), fun x hx => (by cases hx), fun x hx => (by cases hx), by show 0 + 0 ≤ 20; decide⟩
  | sign i t =>
    show DeskOk (if _ then _ else _ : Desk × Ans).1
    split
    · exact ok
    · rename_i h
      simp only [not_or] at h
      obtain ⟨s, hs, ht, e⟩ := there_some (no_false h.1)
      show DeskOk (if _ then _ else _ : Desk × Ans).1
      split
      · exact ok
      · rename_i hb
        rw [e] at hb ⊢
        exact become_ok ok (set_bound_ok ok.now hs ht (add_bit_lt (ok.now.st i s hs).bnd (nt h.2) (by simpa using hb))) rfl
  | leave i t =>
    show DeskOk (if _ then _ else _ : Desk × Ans).1
    split
    · exact ok
    · rename_i h
      simp only [not_or] at h
      obtain ⟨s, hs, ht, e⟩ := there_some (no_false h.1)
      show DeskOk (if _ then _ else _ : Desk × Ans).1
      split
      · exact ok
      · rw [e]
        exact become_ok ok (set_bound_ok ok.now hs ht (Nat.lt_of_le_of_lt (Nat.sub_le _ _) (ok.now.st i s hs).bnd)) rfl
  | owe i x =>
    show DeskOk (if _ then _ else if _ then _ else if _ then _ else _ : Desk × Ans).1
    split
    · exact ok
    · rename_i h
      obtain ⟨s, hs, ht, e⟩ := there_some (no_false h)
      split
      · exact ok
      · split
        · exact ok
        · rename_i h2 h3
          rw [e]
          rw [total_owed ok.now] at h3
          have er : RICH = 10000000 := rfl
          exact become_ok ok (set_owes_ok ok.now hs ht (by omega)) rfl
  | pay i x =>
    show DeskOk (if _ then _ else if _ then _ else _ : Desk × Ans).1
    split
    · exact ok
    · rename_i h
      obtain ⟨s, hs, ht, e⟩ := there_some (no_false h)
      split
      · exact ok
      · show DeskOk (if _ then _ else _ : Desk × Ans).1
        split
        · exact ok
        · rw [e]
          have tot := ok.now.tot
          exact become_ok ok (set_owes_ok ok.now hs ht (by omega)) rfl
  | part i mode p q =>
    show DeskOk (if _ then _ else if _ then _ else if _ then _ else _ : Desk × Ans).1
    split
    · exact ok
    · rename_i h
      obtain ⟨s, hs, ht, e⟩ := there_some (no_false h)
      split
      · exact ok
      · split
        · exact ok
        · rename_i h3
          have er : STATES = 12 := rfl
          exact become_ok ok (parted_ok ok.now hs ht (by unfold Book.n at h3; omega)) rfl
  | join i j mode =>
    show DeskOk (if _ then _ else if _ then _ else _ : Desk × Ans).1
    split
    · exact ok
    · rename_i h
      simp only [not_or] at h
      obtain ⟨s, hs, ht, e⟩ := there_some (no_false h.1)
      obtain ⟨r, hr, ht', e'⟩ := there_some (no_false h.2)
      split
      · exact ok
      · rename_i h2
        simp only [not_or] at h2
        exact become_ok ok (joined_ok ok.now hs ht hr ht' h2.1) rfl
  | follow i t =>
    show DeskOk (if _ then _ else _ : Desk × Ans).1
    split
    · exact ok
    · rename_i h
      simp only [not_or] at h
      obtain ⟨s, hs, ht, e⟩ := there_some (no_false h.1)
      show DeskOk (if _ then _ else if _ then _ else _ : Desk × Ans).1
      split
      · exact ok
      · split
        · exact ok
        · rename_i hb
          rw [e] at hb ⊢
          exact become_ok ok (set_bound_ok ok.now hs ht (add_bit_lt (ok.now.st i s hs).bnd (nt h.2) (by simpa using hb))) rfl
  | back =>
    have hl := ok.len
    cases e : d.past with
    | nil =>
      have q : (act d .back).1 = d := by show (match d.past with | [] => (d, only (-2)) | k :: r => (⟨k, r, d.now :: d.future⟩, only (n2i r.length)) : Desk × Ans).1 = d; rw [e]
      rw [q]
      exact ok
    | cons k r =>
      have q : (act d .back).1 = ⟨k, r, d.now :: d.future⟩ := by show (match d.past with | [] => (d, only (-2)) | k :: r => (⟨k, r, d.now :: d.future⟩, only (n2i r.length)) : Desk × Ans).1 = _; rw [e]
      rw [q]
      have hk := ok.past k (by rw [e]; exact List.mem_cons_self)
      refine ⟨hk.1, fun x hx => ?_, fun x hx => ?_, ?_⟩
      · have := ok.past x (by rw [e]; exact List.mem_cons_of_mem _ hx)
        exact ⟨this.1, this.2.trans hk.2.symm⟩
      · rcases List.mem_cons.mp hx with z | z
        · rw [z]
          exact ⟨ok.now, hk.2.symm⟩
        · have := ok.fut x z
          exact ⟨this.1, this.2.trans hk.2.symm⟩
      · show r.length + (d.now :: d.future).length ≤ 20
        rw [e, List.length_cons] at hl
        rw [List.length_cons]
        omega
  | again =>
    have hl := ok.len
    cases e : d.future with
    | nil =>
      have q : (act d .again).1 = d := by show (match d.future with | [] => (d, only (-2)) | k :: r => (⟨k, (d.now :: d.past).take PAST, r⟩, only (n2i r.length)) : Desk × Ans).1 = d; rw [e]
      rw [q]
      exact ok
    | cons k r =>
      have q : (act d .again).1 = ⟨k, (d.now :: d.past).take PAST, r⟩ := by show (match d.future with | [] => (d, only (-2)) | k :: r => (⟨k, (d.now :: d.past).take PAST, r⟩, only (n2i r.length)) : Desk × Ans).1 = _; rw [e]
      rw [q]
      have hk := ok.fut k (by rw [e]; exact List.mem_cons_self)
      refine ⟨hk.1, fun x hx => ?_, fun x hx => ?_, ?_⟩
      · rcases List.mem_cons.mp (List.mem_of_mem_take hx) with z | z
        · rw [z]
          exact ⟨ok.now, hk.2.symm⟩
        · have := ok.past x z
          exact ⟨this.1, this.2.trans hk.2.symm⟩
      · have := ok.fut x (by rw [e]; exact List.mem_cons_of_mem _ hx)
        exact ⟨this.1, this.2.trans hk.2.symm⟩
      · show ((d.now :: d.past).take PAST).length + r.length ≤ 20
        rw [e, List.length_cons] at hl
        rw [List.length_take, List.length_cons]
        omega
  | treaties i => exact ok
  | bound t => exact ok
  | common i j => exact ok
  | debt i => exact ok
  | total => exact ok
  | from_ i => exact ok
  | line i => exact ok
  | heirs i => exact ok
  | kin i j => exact ok
  | whole t => exact ok
  | could i => exact ok
  | would i p q => exact ok
  | state => exact ok
end Sh
set_option Elab.async false
set_option linter.all false
/-! Lines and takers: one step at a time, whatever the fuel. -/
namespace Sh
open Km484
theorem at_out {b : Book} {i : Nat} (h : b.states.length ≤ i) : b.at_ i = ⟨false, 0, 0, 0, none, none⟩ := at_none (List.getElem?_eq_none h)
theorem get_at {b : Book} {i : Nat} (h : i < b.states.length) : b.states[i]? = some (b.at_ i) := by
  have e := List.getElem?_eq_getElem h
  rw [e, at_some e]
theorem par_lt {b : Book} (ok : BookOk b) {i p : Nat} (h : (b.at_ i).parent = some p) : p < i ∧ i < b.states.length := by
  by_cases hi : i < b.states.length
  · exact ⟨(ok.st i _ (get_at hi)).par p h, hi⟩
  · rw [at_out (by omega)] at h
    cases h
theorem line_fuel {b : Book} (ok : BookOk b) : ∀ (i f g : Nat), i ≤ f → i ≤ g → b.line f i = b.line g i := by
  intro i
  induction i using Nat.strongRecOn with
  | _ i ih =>
    intro f g hf hg
    cases e : (b.at_ i).parent with
    | none =>
      have q : ∀ k, b.line k i = [i] := fun k => by
        cases k with
        | zero => rfl
        | succ k => unfold Book.line; rw [e]
      rw [q, q]
    | some p =>
      have hp := (par_lt ok e).1
      cases f with
      | zero => omega
      | succ f =>
        cases g with
        | zero => omega
        | succ g =>
          unfold Book.line
          rw [e]
          show i :: b.line f p = i :: b.line g p
          rw [ih p hp f g (by omega) (by omega)]
theorem line_none {b : Book} {i : Nat} (h : (b.at_ i).parent = none) : b.lineOf i = [i] := by
  unfold Book.lineOf
  cases b.n with
  | zero => rfl
  | succ k => unfold Book.line; rw [h]
theorem line_some {b : Book} (ok : BookOk b) {i p : Nat} (h : (b.at_ i).parent = some p) : b.lineOf i = i :: b.lineOf p := by
  obtain ⟨hp, hi⟩ := par_lt ok h
  have hn : b.n = b.states.length := rfl
  unfold Book.lineOf
  cases e : b.n with
  | zero => omega
  | succ k =>
    rw [show b.line (k + 1) i = i :: b.line k p by conv => lhs; unfold Book.line; rw [h]]
    rw [line_fuel ok p k (k + 1) (by omega) (by omega)]
theorem line_le {b : Book} (ok : BookOk b) : ∀ (i x : Nat), x ∈ b.lineOf i → x ≤ i := by
  intro i
  induction i using Nat.strongRecOn with
  | _ i ih =>
    intro x hx
    cases e : (b.at_ i).parent with
    | none =>
      rw [line_none e] at hx
      have := List.mem_singleton.mp hx
      omega
    | some p =>
      rw [line_some ok e] at hx
      have hp := (par_lt ok e).1
      rcases List.mem_cons.mp hx with z | z
      · omega
      · have := ih p hp x z
        omega
theorem line_nodup {b : Book} (ok : BookOk b) : ∀ i : Nat, (b.lineOf i).Nodup := by
  intro i
  induction i using Nat.strongRecOn with
  | _ i ih =>
    cases e : (b.at_ i).parent with
    | none => rw [line_none e]; simp
    | some p =>
      rw [line_some ok e]
      have hp := (par_lt ok e).1
      refine List.nodup_cons.mpr ⟨fun m => ?_, ih p hp⟩
      have := line_le ok p i m
      omega
theorem line_self (b : Book) (i : Nat) : i ∈ b.lineOf i := by
  unfold Book.lineOf
  cases b.n with
  | zero => exact List.mem_singleton.mpr rfl
  | succ k =>
    unfold Book.line
    split
    · exact List.mem_singleton.mpr rfl
    · exact List.mem_cons_self
/-! ### who took it up, and so on -/
theorem tk_lt {b : Book} (ok : BookOk b) {i k : Nat} (h : (b.at_ i).taken = some k) : k < b.states.length ∧ i < b.states.length := by
  by_cases hi : i < b.states.length
  · exact ⟨(ok.st i _ (get_at hi)).tak k h, hi⟩
  · rw [at_out (by omega)] at h
    cases h
/-- how many steps are left -/
def need (b : Book) (tm : Nat → Nat) (i : Nat) : Nat := if (b.at_ i).taken = none then 0 else gone b.states - tm i
theorem need_lt {b : Book} (ok : BookOk b) {tm : Nat → Nat} (T : Timed b.states tm) {i k : Nat} (h : (b.at_ i).taken = some k) : need b tm k < need b tm i ∧ need b tm i ≤ b.states.length := by
  obtain ⟨hk, hi⟩ := tk_lt ok h
  obtain ⟨a1, a2, a3⟩ := T i _ (get_at hi)
  have st := (ok.st i _ (get_at hi)).tk
  rw [h] at st
  have q := a2 st
  have gl := gone_le b.states
  have en : need b tm i = gone b.states - tm i := if_neg (by rw [h]; simp)
  rw [en]
  refine ⟨?_, by omega⟩
  unfold need
  split
  · omega
  · rename_i hn
    obtain ⟨b1, b2, b3⟩ := T k _ (get_at hk)
    have st2 := (ok.st k _ (get_at hk)).tk
    have st3 : (b.at_ k).there = false := by
      cases e : (b.at_ k).taken with
      | none => exact absurd e hn
      | some _ => rw [st2, e]; rfl
    have := a3 k h
    have := b2 st3
    omega
theorem up_fuel {b : Book} (ok : BookOk b) {tm : Nat → Nat} (T : Timed b.states tm) : ∀ (m i f g : Nat), need b tm i ≤ m → need b tm i ≤ f → need b tm i ≤ g → b.up f i = b.up g i := by
  intro m
  induction m with
  | zero =>
    intro i f g hm hf hg
    cases e : (b.at_ i).taken with
    | none =>
      have q : ∀ k, b.up k i = i := fun k => by
        cases k with
        | zero => rfl
        | succ k => unfold Book.up; rw [e]
      rw [q, q]
    | some k =>
      have := (need_lt ok T e).1
      omega
  | succ m ih =>
    intro i f g hm hf hg
    cases e : (b.at_ i).taken with
    | none =>
      have q : ∀ k, b.up k i = i := fun k => by
        cases k with
        | zero => rfl
        | succ k => unfold Book.up; rw [e]
      rw [q, q]
    | some k =>
      have hl := (need_lt ok T e).1
      cases f with
      | zero => omega
      | succ f =>
        cases g with
        | zero => omega
        | succ g =>
          unfold Book.up
          rw [e]
          exact ih k f g (by omega) (by omega) (by omega)
theorem up_none {b : Book} {i : Nat} (h : (b.at_ i).taken = none) : b.up b.n i = i := by
  cases b.n with
  | zero => rfl
  | succ k => unfold Book.up; rw [h]
theorem up_some {b : Book} (ok : BookOk b) {i k : Nat} (h : (b.at_ i).taken = some k) : b.up b.n i = b.up b.n k := by
  obtain ⟨tm, T⟩ := ok.time
  have hl := need_lt ok T h
  have hn : b.n = b.states.length := rfl
  cases e : b.n with
  | zero => omega
  | succ f =>
    rw [show b.up (f + 1) i = b.up f k by conv => lhs; unfold Book.up; rw [h]]
    exact up_fuel ok T b.states.length k f (f + 1) (by omega) (by omega) (by omega)
theorem up_there {b : Book} (ok : BookOk b) {tm : Nat → Nat} (T : Timed b.states tm) : ∀ (m i : Nat), need b tm i ≤ m → i < b.states.length → b.there (b.up b.n i) = true ∧ b.up b.n i < b.states.length := by
  intro m
  induction m with
  | zero =>
    intro i hm hi
    cases e : (b.at_ i).taken with
    | none =>
      rw [up_none e]
      refine ⟨?_, hi⟩
      show (b.at_ i).there = true
      rw [(ok.st i _ (get_at hi)).tk, e]
      rfl
    | some k =>
      have := (need_lt ok T e).1
      omega
  | succ m ih =>
    intro i hm hi
    cases e : (b.at_ i).taken with
    | none =>
      rw [up_none e]
      refine ⟨?_, hi⟩
      show (b.at_ i).there = true
      rw [(ok.st i _ (get_at hi)).tk, e]
      rfl
    | some k =>
      have hl := (need_lt ok T e).1
      rw [up_some ok e]
      exact ih k (by omega) (tk_lt ok e).1
/-! ### heirs, kin -/
theorem mem_alive {b : Book} {k : Nat} : k ∈ b.alive ↔ k < b.n ∧ b.there k = true := by
  unfold Book.alive
  rw [List.mem_filter, List.mem_range]
theorem mem_heirs {b : Book} (ok : BookOk b) {i k : Nat} : k ∈ b.heirs i ↔ ∃ j, j < b.n ∧ i ∈ b.lineOf j ∧ b.up b.n j = k := by
  obtain ⟨tm, T⟩ := ok.time
  unfold Book.heirs
  rw [List.mem_filter, mem_alive, List.any_eq_true]
  constructor
  · rintro ⟨_, j, hj, h⟩
    rw [Bool.and_eq_true, List.contains_iff_mem, beq_iff_eq] at h
    exact ⟨j, List.mem_range.mp hj, h.1, h.2⟩
  · rintro ⟨j, hj, h1, h2⟩
    have q := up_there ok T _ j (Nat.le_refl _) hj
    rw [h2] at q
    refine ⟨⟨q.2, q.1⟩, j, List.mem_range.mpr hj, ?_⟩
    rw [Bool.and_eq_true, List.contains_iff_mem, beq_iff_eq]
    exact ⟨h1, h2⟩
theorem heirs_nodup (b : Book) (i : Nat) : (b.heirs i).Nodup := (nodup_range_filter _ _).sublist List.filter_sublist
theorem heirs_lt {b : Book} {i k : Nat} (h : k ∈ b.heirs i) : k < b.n := (mem_alive.mp (List.mem_filter.mp h).1).1
theorem heirs_bits {b : Book} (ok : BookOk b) {i m : Nat} (h : ∀ k, m.testBit k = true ↔ ∃ j, j < b.n ∧ i ∈ b.lineOf j ∧ b.up b.n j = k) : m = bits (b.heirs i) := by
  apply Nat.eq_of_testBit_eq
  intro k
  rw [bits_bit (heirs_nodup b i), Bool.eq_iff_iff, h, decide_eq_true_eq, mem_heirs ok]
theorem kin_iff {b : Book} {i j : Nat} : b.kin i j = true ↔ ∃ x, x ∈ b.lineOf i ∧ x ∈ b.lineOf j := by
  unfold Book.kin
  rw [List.any_eq_true]
  constructor
  · rintro ⟨x, h1, h2⟩
    exact ⟨x, h1, List.contains_iff_mem.mp h2⟩
  · rintro ⟨x, h1, h2⟩
    exact ⟨x, h1, List.contains_iff_mem.mpr h2⟩
end Sh
set_option Elab.async false
set_option linter.all false
/-! The calls one by one, over the book alone. -/
namespace Sh
open Km484
def chg (b : Book) (x : Call) : Book × Int := ((act ⟨b, [], []⟩ x).1.now, (act ⟨b, [], []⟩ x).2.value)
def isChg : Call → Bool
  | .sign _ _ => true
  | .leave _ _ => true
  | .owe _ _ => true
  | .pay _ _ => true
  | .part _ _ _ _ => true
  | .join _ _ _ => true
  | .follow _ _ => true
  | _ => false
theorem n2i_nn (n : Nat) : 0 ≤ n2i n := Int.natCast_nonneg n
theorem neg_lt {a : Int} {k : Nat} (h : a = Int.negSucc k) : a < 0 := by rw [h]; exact Int.negSucc_lt_zero k
theorem act_chg (d : Desk) (x : Call) (hx : isChg x = true) : (0 ≤ (chg d.now x).2 ∧ act d x = (d.become (chg d.now x).1, only (chg d.now x).2)) ∨ ((chg d.now x).2 < 0 ∧ (chg d.now x).1 = d.now ∧ act d x = (d, only (chg d.now x).2)) := by
  cases x with
  | sign i t =>
    simp only [chg, act]
    split
    · exact .inr ⟨neg_lt rfl, rfl, rfl⟩
    · split
      · exact .inr ⟨neg_lt rfl, rfl, rfl⟩
      · exact .inl ⟨n2i_nn _, rfl⟩
  | leave i t =>
    simp only [chg, act]
    split
    · exact .inr ⟨neg_lt rfl, rfl, rfl⟩
    · split
      · exact .inr ⟨neg_lt rfl, rfl, rfl⟩
      · exact .inl ⟨n2i_nn _, rfl⟩
  | owe i x =>
    simp only [chg, act]
    split
    · exact .inr ⟨neg_lt rfl, rfl, rfl⟩
    · split
      · exact .inr ⟨neg_lt rfl, rfl, rfl⟩
      · split
        · exact .inr ⟨neg_lt rfl, rfl, rfl⟩
        · exact .inl ⟨n2i_nn _, rfl⟩
  | pay i x =>
    simp only [chg, act]
    split
    · exact .inr ⟨neg_lt rfl, rfl, rfl⟩
    · split
      · exact .inr ⟨neg_lt rfl, rfl, rfl⟩
      · split
        · exact .inr ⟨neg_lt rfl, rfl, rfl⟩
        · exact .inl ⟨n2i_nn _, rfl⟩
  | part i mode p q =>
    simp only [chg, act]
    split
    · exact .inr ⟨neg_lt rfl, rfl, rfl⟩
    · split
      · exact .inr ⟨neg_lt rfl, rfl, rfl⟩
      · split
        · exact .inr ⟨neg_lt rfl, rfl, rfl⟩
        · exact .inl ⟨n2i_nn _, rfl⟩
  | join i j mode =>
    simp only [chg, act]
    split
    · exact .inr ⟨neg_lt rfl, rfl, rfl⟩
    · split
      · exact .inr ⟨neg_lt rfl, rfl, rfl⟩
      · exact .inl ⟨n2i_nn _, rfl⟩
  | follow i t =>
    simp only [chg, act]
    split
    · exact .inr ⟨neg_lt rfl, rfl, rfl⟩
    · split
      · exact .inr ⟨neg_lt rfl, rfl, rfl⟩
      · split
        · exact .inr ⟨neg_lt rfl, rfl, rfl⟩
        · exact .inl ⟨n2i_nn _, rfl⟩
  | _ => cases hx
/-- what is answered to a call that only asks of the book -/
def ask (b : Book) (x : Call) : List Int := Km484Neutral.told (act ⟨b, [], []⟩ x).2
def isAsk : Call → Bool
  | .treaties _ => true
  | .bound _ => true
  | .common _ _ => true
  | .debt _ => true
  | .total => true
  | .from_ _ => true
  | .line _ => true
  | .heirs _ => true
  | .kin _ _ => true
  | .whole _ => true
  | .could _ => true
  | .would _ _ _ => true
  | _ => false
theorem act_ask (d : Desk) (x : Call) (hx : isAsk x = true) : (act d x).1 = d ∧ Km484Neutral.told (act d x).2 = ask d.now x := by
  cases x <;> first | exact ⟨rfl, rfl⟩ | cases hx
end Sh
set_option Elab.async false
set_option linter.all false
/-! The calls one by one: what is answered, condition by condition. -/
namespace Sh
open Km484
theorem not_no {b : Book} {i t : Nat} (hi : b.there i = true) (ht : t < b.t) : ¬ (b.no i = true ∨ b.noTreaty t = true) := by
  unfold Book.no Book.noTreaty
  rw [hi]
  simp
  exact ht
theorem is_no {b : Book} {i t : Nat} (h : b.there i = false ∨ b.t ≤ t) : b.no i = true ∨ b.noTreaty t = true := by
  unfold Book.no Book.noTreaty
  rcases h with h | h
  · left; rw [h]; rfl
  · right; exact decide_eq_true h
theorem no1 {b : Book} {i : Nat} (h : b.there i = false) : b.no i = true := by unfold Book.no; rw [h]; rfl
theorem yes1 {b : Book} {i : Nat} (h : b.there i = true) : ¬ b.no i = true := by unfold Book.no; rw [h]; simp
theorem chg_sign_no {b : Book} {i t : Nat} (h : b.there i = false ∨ b.t ≤ t) : chg b (.sign i t) = (b, -2) := by
  simp only [chg, act, if_pos (is_no h)]; rfl
theorem chg_leave_no {b : Book} {i t : Nat} (h : b.there i = false ∨ b.t ≤ t) : chg b (.leave i t) = (b, -2) := by
  simp only [chg, act, if_pos (is_no h)]; rfl
theorem chg_follow_no {b : Book} {i t : Nat} (h : b.there i = false ∨ b.t ≤ t) : chg b (.follow i t) = (b, -2) := by
  simp only [chg, act, if_pos (is_no h)]; rfl
theorem chg_sign {b : Book} {i t : Nat} {s : State_} (hi : b.there i = true) (ht : t < b.t) (es : b.at_ i = s) :
    chg b (.sign i t) = if s.bound.testBit t = true then (b, -17) else (b.set i { s with bound := s.bound + 2 ^ t }, n2i (count s.bound + 1)) := by
  simp only [chg, act, if_neg (not_no hi ht), es]
  split <;> rfl
theorem chg_leave {b : Book} {i t : Nat} {s : State_} (hi : b.there i = true) (ht : t < b.t) (es : b.at_ i = s) :
    chg b (.leave i t) = if s.bound.testBit t = false then (b, -6) else (b.set i { s with bound := s.bound - 2 ^ t }, n2i (count s.bound - 1)) := by
  simp only [chg, act, if_neg (not_no hi ht), es]
  split <;> rfl
theorem chg_follow {b : Book} {i t : Nat} {s : State_} (hi : b.there i = true) (ht : t < b.t) (es : b.at_ i = s) :
    chg b (.follow i t) = if s.free.testBit t = false then (b, -6) else if s.bound.testBit t = true then (b, -17) else (b.set i { s with bound := s.bound + 2 ^ t }, n2i (count s.bound + 1)) := by
  simp only [chg, act, if_neg (not_no hi ht), es]
  split
  · rfl
  · split <;> rfl
theorem chg_owe_no {b : Book} {i x : Nat} (h : b.there i = false) : chg b (.owe i x) = (b, -2) := by
  simp only [chg, act, if_pos (no1 h)]; rfl
theorem chg_owe {b : Book} {i x : Nat} {s : State_} (hi : b.there i = true) (es : b.at_ i = s) :
    chg b (.owe i x) = if x = 0 ∨ 1000000 < x then (b, -22) else if 10000000 < b.total + x then (b, -75) else (b.set i { s with owes := s.owes + x }, n2i (s.owes + x)) := by
  simp only [chg, act, if_neg (yes1 hi), es, ONCE, RICH]
  split
  · rfl
  · split <;> rfl
theorem chg_pay_no {b : Book} {i x : Nat} (h : b.there i = false) : chg b (.pay i x) = (b, -2) := by
  simp only [chg, act, if_pos (no1 h)]; rfl
theorem chg_pay {b : Book} {i x : Nat} {s : State_} (hi : b.there i = true) (es : b.at_ i = s) :
    chg b (.pay i x) = if x = 0 ∨ 1000000 < x then (b, -22) else if s.owes < x then (b, -12) else (b.set i { s with owes := s.owes - x }, n2i (s.owes - x)) := by
  simp only [chg, act, if_neg (yes1 hi), es, ONCE]
  split
  · rfl
  · split <;> rfl
theorem chg_part_no {b : Book} {i mode p q : Nat} (h : b.there i = false) : chg b (.part i mode p q) = (b, -2) := by
  simp only [chg, act, if_pos (no1 h)]; rfl
theorem chg_part {b : Book} {i mode p q : Nat} (hi : b.there i = true) :
    chg b (.part i mode p q) = if 1 < mode ∨ okParts p q = false then (b, -22) else if STATES ≤ b.n then (b, -28) else (b.parted i mode p q, n2i b.n) := by
  simp only [chg, act, if_neg (yes1 hi)]
  split
  · rfl
  · split <;> rfl
theorem chg_join_no {b : Book} {i j mode : Nat} (h : b.there i = false ∨ b.there j = false) : chg b (.join i j mode) = (b, -2) := by
  have q : b.no i = true ∨ b.no j = true := h.imp no1 no1
  simp only [chg, act, if_pos q]; rfl
theorem chg_join {b : Book} {i j mode : Nat} (hi : b.there i = true) (hj : b.there j = true) :
    chg b (.join i j mode) = if i = j ∨ 1 < mode then (b, -22) else (b.joined i j mode, n2i (b.alive.length - 1)) := by
  have q : ¬ (b.no i = true ∨ b.no j = true) := fun h => h.elim (yes1 hi) (yes1 hj)
  simp only [chg, act, if_neg q]
  split <;> rfl
/-! ### what is asked -/
theorem ask_treaties (b : Book) (i : Nat) : ask b (.treaties i) = if b.there i = true then [n2i (count (b.at_ i).bound), ((b.at_ i).bound : Int), ((b.at_ i).free : Int)] else [-2] := by
  cases h : b.there i
  · simp only [ask, act, if_pos (no1 h)]; rfl
  · simp only [ask, act, if_neg (yes1 h)]; rfl
theorem ask_bound (b : Book) (t : Nat) : ask b (.bound t) = if t < b.t then [n2i (b.alive.filter fun i => (b.at_ i).bound.testBit t).length, (bits (b.alive.filter fun i => (b.at_ i).bound.testBit t) : Int)] else [-2] := by
  unfold ask act Book.noTreaty
  by_cases h : t < b.t
  · simp only [if_pos h, decide_eq_true_eq, if_neg (Nat.not_le_of_lt h)]; rfl
  · simp only [if_neg h, decide_eq_true_eq, if_pos (Nat.le_of_not_lt h)]; rfl
theorem ask_common (b : Book) (i j : Nat) : ask b (.common i j) = if b.there i = true ∧ b.there j = true then (if i = j then [-22] else [n2i (count ((b.at_ i).bound &&& (b.at_ j).bound)), (((b.at_ i).bound &&& (b.at_ j).bound : Nat) : Int)]) else [-2] := by
  by_cases h : b.there i = true ∧ b.there j = true
  · have q : ¬ (b.no i = true ∨ b.no j = true) := fun z => z.elim (yes1 h.1) (yes1 h.2)
    simp only [ask, act, if_neg q, if_pos h]
    split <;> rfl
  · have q : b.no i = true ∨ b.no j = true := by
      cases hi : b.there i
      · exact .inl (no1 hi)
      · cases hj : b.there j
        · exact .inr (no1 hj)
        · exact absurd ⟨hi, hj⟩ h
    simp only [ask, act, if_pos q, if_neg h]; rfl
theorem ask_debt (b : Book) (i : Nat) : ask b (.debt i) = if b.there i = true then [((b.at_ i).owes : Int)] else [-2] := by
  cases h : b.there i
  · simp only [ask, act, if_pos (no1 h)]; rfl
  · simp only [ask, act, if_neg (yes1 h)]; rfl
theorem ask_total (b : Book) : ask b .total = [(b.total : Int), (b.alive.length : Int)] := rfl
theorem ask_from (b : Book) (i : Nat) : ask b (.from_ i) = if i < b.n then [((((b.at_ i).parent.map fun p => p + 1).getD 0 : Nat) : Int), ((((b.at_ i).taken.map fun j => j + 1).getD 0 : Nat) : Int)] else [-2] := by
  by_cases h : i < b.n
  · simp only [ask, act, if_pos h, if_neg (Nat.not_le_of_lt h)]; rfl
  · simp only [ask, act, if_neg h, if_pos (Nat.le_of_not_lt h)]; rfl
theorem ask_line (b : Book) (i : Nat) : ask b (.line i) = if i < b.n then [((b.lineOf i).length : Int), (bits (b.lineOf i) : Int)] else [-2] := by
  by_cases h : i < b.n
  · simp only [ask, act, if_pos h, if_neg (Nat.not_le_of_lt h)]; rfl
  · simp only [ask, act, if_neg h, if_pos (Nat.le_of_not_lt h)]; rfl
theorem ask_heirs (b : Book) (i : Nat) : ask b (.heirs i) = if i < b.n then [((b.heirs i).length : Int), (bits (b.heirs i) : Int)] else [-2] := by
  by_cases h : i < b.n
  · simp only [ask, act, if_pos h, if_neg (Nat.not_le_of_lt h)]; rfl
  · simp only [ask, act, if_neg h, if_pos (Nat.le_of_not_lt h)]; rfl
theorem ask_kin (b : Book) (i j : Nat) : ask b (.kin i j) = if i < b.n ∧ j < b.n then [if b.kin i j = true then 1 else 0] else [-2] := by
  by_cases h : i < b.n ∧ j < b.n
  · have q : ¬ (b.n ≤ i ∨ b.n ≤ j) := by omega
    simp only [ask, act, if_pos h, if_neg q]; rfl
  · have q : b.n ≤ i ∨ b.n ≤ j := by omega
    simp only [ask, act, if_neg h, if_pos q]; rfl
theorem ask_whole (b : Book) (t : Nat) : ask b (.whole t) = if t < b.t then [if (b.alive.all fun i => (b.at_ i).bound.testBit t) = true then 1 else 0] else [-2] := by
  unfold ask act Book.noTreaty
  by_cases h : t < b.t
  · simp only [if_pos h, decide_eq_true_eq, if_neg (Nat.not_le_of_lt h)]; rfl
  · simp only [if_neg h, decide_eq_true_eq, if_pos (Nat.le_of_not_lt h)]; rfl
theorem ask_could (b : Book) (i : Nat) : ask b (.could i) = if b.there i = true then [n2i (count ((b.at_ i).free &&& ((2 ^ b.t - 1) ^^^ (b.at_ i).bound))), (((b.at_ i).free &&& ((2 ^ b.t - 1) ^^^ (b.at_ i).bound) : Nat) : Int)] else [-2] := by
  cases h : b.there i
  · simp only [ask, act, if_pos (no1 h)]; rfl
  · simp only [ask, act, if_neg (yes1 h)]; rfl
theorem ask_would (b : Book) (i p q : Nat) : ask b (.would i p q) = if b.there i = true then (if okParts p q = false then [-22] else [(((b.at_ i).owes * p / (p + q) : Nat) : Int), (((b.at_ i).owes - (b.at_ i).owes * p / (p + q) : Nat) : Int)]) else [-2] := by
  cases h : b.there i
  · simp only [ask, act, if_pos (no1 h)]; rfl
  · simp only [ask, act, if_neg (yes1 h)]
    split <;> rfl
/-! ### sets as numbers -/
theorem and_zero_iff (a c : Nat) : a &&& c = 0 ↔ ∀ x, ¬ (a.testBit x = true ∧ c.testBit x = true) := by
  constructor
  · intro h x ⟨h1, h2⟩
    have q := congrArg (fun z => z.testBit x) h
    simp only [Nat.testBit_and, h1, h2, Nat.zero_testBit] at q
    cases q
  · intro h
    apply Nat.eq_of_testBit_eq
    intro x
    rw [Nat.testBit_and, Nat.zero_testBit]
    have := h x
    cases h1 : a.testBit x <;> cases h2 : c.testBit x <;> simp_all
end Sh
set_option Elab.async false
set_option linter.all false
/-! Sets as numbers, call by call. -/
namespace Sh
open Km484 PyProof.Rows
theorem lt16 {m t : Nat} (h : m < 2 ^ t) (ht : t ≤ 8) : m < 65536 := by
  have q : 2 ^ t ≤ 2 ^ 8 := Nat.pow_le_pow_right (by decide) ht
  have e : (2 : Nat) ^ 8 = 256 := rfl
  omega
theorem pop_count {m t : Nat} (h : m < 2 ^ t) (ht : t ≤ 8) : pop m = count m := (count_pop (lt16 h ht)).symm
theorem pop_sign {m t k : Nat} (h : m < 2 ^ t) (ht : t ≤ 8) (hk : k < t) (hb : m.testBit k = false) : pop (m ||| 2 ^ k) = count m + 1 := by
  have q : m ||| 2 ^ k < 2 ^ t := Nat.or_lt_two_pow h (Nat.pow_lt_pow_right (by decide) hk)
  rw [pop_count q ht, count_cnt, count_cnt, cnt_or 16 (by omega) hb]
theorem pop_leave {m t k : Nat} (h : m < 2 ^ t) (ht : t ≤ 8) (hk : k < t) (hb : m.testBit k = true) : pop (m - 2 ^ k) = count m - 1 := by
  have q : m - 2 ^ k < 2 ^ t := Nat.lt_of_le_of_lt (Nat.sub_le _ _) h
  rw [pop_count q ht, count_cnt, count_cnt, cnt_sub 16 (by omega) hb]
theorem filt_len : ∀ l : List State_, (l.filter (·.there)).length + gone l = l.length
  | [] => rfl
  | s :: l => by
    have ih := filt_len l
    unfold gone at ih ⊢
    cases e : s.there <;> simp [List.filter_cons, e] <;> omega
theorem alive_joined {b : Book} {i j mode : Nat} {s r : State_} (h : b.states[i]? = some s) (h' : b.states[j]? = some r) (ht' : r.there = true) (hij : i ≠ j) : (b.joined i j mode).alive.length = b.alive.length - 1 := by
  have g1 := filt_len b.states
  have g2 := filt_len (b.joined i j mode).states
  rw [alive_length, alive_length]
  have e1 : (b.joined i j mode).states = (b.states.set i { s with bound := if mode = 1 then s.bound ||| r.bound else s.bound, free := s.free ||| r.bound, owes := s.owes + r.owes }).set j { r with there := false, bound := 0, free := 0, owes := 0, taken := some i } := by
    unfold Book.joined Book.set
    rw [at_some h, at_some h']
  have q : (b.states.set i { s with bound := if mode = 1 then s.bound ||| r.bound else s.bound, free := s.free ||| r.bound, owes := s.owes + r.owes })[j]? = some r := by
    rw [List.getElem?_set_ne hij]
    exact h'
  have e2 := gone_out (s' := { r with there := false, bound := 0, free := 0, owes := 0, taken := some i }) q ht' rfl
  have e0 := gone_set (s' := { s with bound := if mode = 1 then s.bound ||| r.bound else s.bound, free := s.free ||| r.bound, owes := s.owes + r.owes }) h rfl
  rw [e0] at e2
  rw [e1, e2, List.length_set, List.length_set] at g2
  rw [e1]
  omega
theorem or_plus {a b : Nat} (h : a &&& b = 0) : a ||| b = a + b := by
  have q := bitOr_and (a : Int) (b : Int)
  rw [or_nat, and_nat, h] at q
  omega
theorem could_eq {f m t : Nat} (hf : f < 2 ^ t) : f - (f &&& m) = f &&& ((2 ^ t - 1) ^^^ m) := by
  have hx : ∀ x, f.testBit x = true → x < t := fun x h => by
    cases Nat.lt_or_ge x t with
    | inl z => exact z
    | inr z =>
      have q := Nat.testBit_lt_two_pow (Nat.lt_of_lt_of_le hf (Nat.pow_le_pow_right (by decide) z))
      rw [h] at q
      cases q
  have e1 : (f &&& m) ||| (f &&& ((2 ^ t - 1) ^^^ m)) = f := by
    apply Nat.eq_of_testBit_eq
    intro x
    rw [Nat.testBit_or, Nat.testBit_and, Nat.testBit_and, Nat.testBit_xor, Nat.testBit_two_pow_sub_one]
    cases h : f.testBit x
    · simp
    · simp [hx x h]
  have e2 : (f &&& m) &&& (f &&& ((2 ^ t - 1) ^^^ m)) = 0 := by
    apply Nat.eq_of_testBit_eq
    intro x
    rw [Nat.testBit_and, Nat.testBit_and, Nat.testBit_and, Nat.testBit_xor, Nat.testBit_two_pow_sub_one, Nat.zero_testBit]
    cases h : f.testBit x
    · simp
    · simp [hx x h]
  have q := or_plus e2
  rw [e1] at q
  omega
theorem whole_iff {l : List Nat} (h : l.Nodup) (p : Nat → Bool) : bits (l.filter p) = bits l ↔ l.all p = true := by
  constructor
  · intro e
    rw [List.all_eq_true]
    intro x hx
    have q := congrArg (fun z => z.testBit x) e
    simp only [bits_bit h, bits_bit (h.sublist List.filter_sublist), hx, decide_true, decide_eq_true_eq] at q
    exact (List.mem_filter.mp q).2
  · intro e
    rw [List.filter_eq_self.mpr (fun x hx => List.all_eq_true.mp e x hx)]
theorem kin_bits {b : Book} (ok : BookOk b) (i j : Nat) : bits (b.lineOf i) &&& bits (b.lineOf j) = 0 ↔ ¬ b.kin i j = true := by
  rw [and_zero_iff, kin_iff]
  constructor
  · rintro h ⟨x, h1, h2⟩
    exact h x ⟨by rw [bits_bit (line_nodup ok i)]; exact decide_eq_true h1, by rw [bits_bit (line_nodup ok j)]; exact decide_eq_true h2⟩
  · intro h x ⟨h1, h2⟩
    rw [bits_bit (line_nodup ok i), decide_eq_true_eq] at h1
    rw [bits_bit (line_nodup ok j), decide_eq_true_eq] at h2
    exact h ⟨x, h1, h2⟩
theorem line_pop {b : Book} (ok : BookOk b) {i : Nat} (hi : i < b.n) : pop (bits (b.lineOf i)) = (b.lineOf i).length := bits_pop (k := b.n) (line_nodup ok i) fun x hx => Nat.lt_of_le_of_lt (line_le ok i x hx) hi
theorem heirs_pop (b : Book) (i : Nat) : pop (bits (b.heirs i)) = (b.heirs i).length := bits_pop (k := b.n) (heirs_nodup b i) fun x hx => heirs_lt hx
theorem alive_nodup (b : Book) : b.alive.Nodup := nodup_range_filter _ _
theorem alive_pop (b : Book) : pop (bits b.alive) = b.alive.length := bits_pop (k := b.n) (alive_nodup b) fun x hx => (mem_alive.mp hx).1
theorem alive_filter_pop (b : Book) (p : Nat → Bool) : pop (bits (b.alive.filter p)) = (b.alive.filter p).length := bits_pop (k := b.n) ((alive_nodup b).sublist List.filter_sublist) fun x hx => (mem_alive.mp (List.mem_filter.mp hx).1).1
end Sh
set_option Elab.async false
set_option linter.all false
set_option maxRecDepth 100000
namespace Sh
open PySem PySem.Spec PyProof.Rows L2
def top (i : Nat) : Stmt := PySem.Challenge.pw_stateheirs_s01_answers.main.body.getD i (.Pass ⟨0, 0, 0, 0⟩)
abbrev s_wrong_start : Stmt := top 6
abbrev s_wrong_units : Stmt := top 7
abbrev s_wrong_mode : Stmt := top 8
abbrev s_wrong_parts : Stmt := top 9
abbrev s_is_in : Stmt := top 13
abbrev s_with_one : Stmt := top 14
abbrev s_without_one : Stmt := top 15
abbrev s_how_many : Stmt := top 16
abbrev s_kept_share : Stmt := top 17
abbrev s_State_init : Stmt := inClass (top 18) 0
abbrev s_State_is_there : Stmt := inClass (top 18) 1
abbrev s_State_vanish_into : Stmt := inClass (top 18) 2
abbrev s_State_copied : Stmt := inClass (top 18) 3
abbrev s_Record_init : Stmt := inClass (top 19) 0
abbrev s_Record_begin : Stmt := inClass (top 19) 1
abbrev s_Record_has_state : Stmt := inClass (top 19) 2
abbrev s_Record_had_state : Stmt := inClass (top 19) 3
abbrev s_Record_has_treaty : Stmt := inClass (top 19) 4
abbrev s_Record_is_full : Stmt := inClass (top 19) 5
abbrev s_Record_who_is_there : Stmt := inClass (top 19) 6
abbrev s_Record_total_debt : Stmt := inClass (top 19) 7
abbrev s_Record_who_is_bound : Stmt := inClass (top 19) 8
abbrev s_Record_line : Stmt := inClass (top 19) 9
abbrev s_Record_ends_up_in : Stmt := inClass (top 19) 10
abbrev s_Record_heirs : Stmt := inClass (top 19) 11
abbrev s_Record_part : Stmt := inClass (top 19) 12
abbrev s_Record_take_up : Stmt := inClass (top 19) 13
abbrev s_Record_copied_states : Stmt := inClass (top 19) 14
abbrev s_Record_keep_change : Stmt := inClass (top 19) 15
abbrev s_Record_take_back : Stmt := inClass (top 19) 16
abbrev s_Record_do_again : Stmt := inClass (top 19) 17
abbrev s_su_start : Stmt := top 28
abbrev s_su_sign : Stmt := top 29
abbrev s_su_leave : Stmt := top 30
abbrev s_su_owe : Stmt := top 31
abbrev s_su_pay : Stmt := top 32
abbrev s_su_part : Stmt := top 33
abbrev s_su_join : Stmt := top 34
abbrev s_su_follow : Stmt := top 35
abbrev s_one_more : Stmt := top 37
abbrev s_su_from : Stmt := top 38
abbrev s_su_line : Stmt := top 39
abbrev s_su_heirs : Stmt := top 40
abbrev s_su_kin : Stmt := top 41
abbrev s_su_treaties : Stmt := top 43
abbrev s_su_bound : Stmt := top 44
abbrev s_su_common : Stmt := top 45
abbrev s_su_debt : Stmt := top 46
abbrev s_su_total : Stmt := top 47
abbrev s_su_whole : Stmt := top 48
abbrev s_su_could : Stmt := top 49
abbrev s_su_would : Stmt := top 50
abbrev s_su_state : Stmt := top 51
abbrev s_su_back : Stmt := top 53
abbrev s_su_again : Stmt := top 54
abbrev s_make_change : Stmt := top 60
abbrev s_answer_change : Stmt := top 61
abbrev s_answer_of_treaties_and_debts : Stmt := top 62
abbrev s_answer_of_descent : Stmt := top 63
abbrev s_answer_the_rest : Stmt := top 64
abbrev s_answer_call : Stmt := top 65
abbrev s_answers : Stmt := top 66
/-- the first list comprehensions of a def, in order, by their scopes -/
theorem sc_wrong_start : FnScope ["n", "t"] ["n", "t"] (defScope s_wrong_start) := ⟨rfl, rfl, rfl, by decide +kernel, rfl, by decide +kernel, by decide +kernel⟩
theorem sc_wrong_units : FnScope ["x"] ["x"] (defScope s_wrong_units) := ⟨rfl, rfl, rfl, by decide +kernel, rfl, by decide +kernel, by decide +kernel⟩
theorem sc_wrong_mode : FnScope ["mode"] ["mode"] (defScope s_wrong_mode) := ⟨rfl, rfl, rfl, by decide +kernel, rfl, by decide +kernel, by decide +kernel⟩
theorem sc_wrong_parts : FnScope ["p", "q"] ["p", "q"] (defScope s_wrong_parts) := ⟨rfl, rfl, rfl, by decide +kernel, rfl, by decide +kernel, by decide +kernel⟩
theorem sc_is_in : FnScope ["one", "many"] ["one", "many"] (defScope s_is_in) := ⟨rfl, rfl, rfl, by decide +kernel, rfl, by decide +kernel, by decide +kernel⟩
theorem sc_with_one : FnScope ["one", "many"] ["one", "many"] (defScope s_with_one) := ⟨rfl, rfl, rfl, by decide +kernel, rfl, by decide +kernel, by decide +kernel⟩
theorem sc_without_one : FnScope ["one", "many"] ["one", "many"] (defScope s_without_one) := ⟨rfl, rfl, rfl, by decide +kernel, rfl, by decide +kernel, by decide +kernel⟩
theorem sc_how_many : FnScope ["many", "count"] ["many"] (defScope s_how_many) := ⟨rfl, rfl, rfl, by decide +kernel, rfl, by decide +kernel, by decide +kernel⟩
theorem sc_kept_share : FnScope ["owes", "p", "q"] ["owes", "p", "q"] (defScope s_kept_share) := ⟨rfl, rfl, rfl, by decide +kernel, rfl, by decide +kernel, by decide +kernel⟩
theorem sc_State_init : FnScope ["self", "bound", "may_follow", "owes", "parted_from"] ["self", "bound", "may_follow", "owes", "parted_from"] (defScope s_State_init) := ⟨rfl, rfl, rfl, by decide +kernel, rfl, by decide +kernel, by decide +kernel⟩
theorem sc_State_is_there : FnScope ["self"] ["self"] (defScope s_State_is_there) := ⟨rfl, rfl, rfl, by decide +kernel, rfl, by decide +kernel, by decide +kernel⟩
theorem sc_State_vanish_into : FnScope ["self", "taker"] ["self", "taker"] (defScope s_State_vanish_into) := ⟨rfl, rfl, rfl, by decide +kernel, rfl, by decide +kernel, by decide +kernel⟩
theorem sc_State_copied : FnScope ["self", "twin"] ["self"] (defScope s_State_copied) := ⟨rfl, rfl, rfl, by decide +kernel, rfl, by decide +kernel, by decide +kernel⟩
theorem sc_Record_init : FnScope ["self"] ["self"] (defScope s_Record_init) := ⟨rfl, rfl, rfl, by decide +kernel, rfl, by decide +kernel, by decide +kernel⟩
theorem sc_Record_begin : FnScope ["self", "n", "t", "number"] ["self", "n", "t"] (defScope s_Record_begin) := ⟨rfl, rfl, rfl, by decide +kernel, rfl, by decide +kernel, by decide +kernel⟩
theorem sc_Record_has_state : FnScope ["self", "i"] ["self", "i"] (defScope s_Record_has_state) := ⟨rfl, rfl, rfl, by decide +kernel, rfl, by decide +kernel, by decide +kernel⟩
theorem sc_Record_had_state : FnScope ["self", "i"] ["self", "i"] (defScope s_Record_had_state) := ⟨rfl, rfl, rfl, by decide +kernel, rfl, by decide +kernel, by decide +kernel⟩
theorem sc_Record_has_treaty : FnScope ["self", "t"] ["self", "t"] (defScope s_Record_has_treaty) := ⟨rfl, rfl, rfl, by decide +kernel, rfl, by decide +kernel, by decide +kernel⟩
theorem sc_Record_is_full : FnScope ["self"] ["self"] (defScope s_Record_is_full) := ⟨rfl, rfl, rfl, by decide +kernel, rfl, by decide +kernel, by decide +kernel⟩
theorem sc_Record_who_is_there : FnScope ["self", "many", "number", "state"] ["self"] (defScope s_Record_who_is_there) := ⟨rfl, rfl, rfl, by decide +kernel, rfl, by decide +kernel, by decide +kernel⟩
theorem sc_Record_total_debt : FnScope ["self", "state"] ["self"] (defScope s_Record_total_debt) := ⟨rfl, rfl, rfl, by decide +kernel, rfl, by decide +kernel, by decide +kernel⟩
theorem sc_Record_who_is_bound : FnScope ["self", "t", "many", "number", "state"] ["self", "t"] (defScope s_Record_who_is_bound) := ⟨rfl, rfl, rfl, by decide +kernel, rfl, by decide +kernel, by decide +kernel⟩
theorem sc_Record_line : FnScope ["self", "i", "many", "parent"] ["self", "i"] (defScope s_Record_line) := ⟨rfl, rfl, rfl, by decide +kernel, rfl, by decide +kernel, by decide +kernel⟩
theorem sc_Record_ends_up_in : FnScope ["self", "i"] ["self", "i"] (defScope s_Record_ends_up_in) := ⟨rfl, rfl, rfl, by decide +kernel, rfl, by decide +kernel, by decide +kernel⟩
theorem sc_Record_heirs : FnScope ["self", "i", "many", "number"] ["self", "i"] (defScope s_Record_heirs) := ⟨rfl, rfl, rfl, by decide +kernel, rfl, by decide +kernel, by decide +kernel⟩
theorem sc_Record_part : FnScope ["self", "i", "mode", "p", "q", "old", "kept", "new_bound"] ["self", "i", "mode", "p", "q"] (defScope s_Record_part) := ⟨rfl, rfl, rfl, by decide +kernel, rfl, by decide +kernel, by decide +kernel⟩
theorem sc_Record_take_up : FnScope ["self", "i", "j", "mode", "taker", "gone"] ["self", "i", "j", "mode"] (defScope s_Record_take_up) := ⟨rfl, rfl, rfl, by decide +kernel, rfl, by decide +kernel, by decide +kernel⟩
theorem sc_Record_copied_states : FnScope ["self", "state"] ["self"] (defScope s_Record_copied_states) := ⟨rfl, rfl, rfl, by decide +kernel, rfl, by decide +kernel, by decide +kernel⟩
theorem sc_Record_keep_change : FnScope ["self", "before"] ["self", "before"] (defScope s_Record_keep_change) := ⟨rfl, rfl, rfl, by decide +kernel, rfl, by decide +kernel, by decide +kernel⟩
theorem sc_Record_take_back : FnScope ["self"] ["self"] (defScope s_Record_take_back) := ⟨rfl, rfl, rfl, by decide +kernel, rfl, by decide +kernel, by decide +kernel⟩
theorem sc_Record_do_again : FnScope ["self"] ["self"] (defScope s_Record_do_again) := ⟨rfl, rfl, rfl, by decide +kernel, rfl, by decide +kernel, by decide +kernel⟩
theorem sc_su_start : FnScope ["record", "n", "t"] ["record", "n", "t"] (defScope s_su_start) := ⟨rfl, rfl, rfl, by decide +kernel, rfl, by decide +kernel, by decide +kernel⟩
theorem sc_su_sign : FnScope ["record", "i", "t", "state"] ["record", "i", "t"] (defScope s_su_sign) := ⟨rfl, rfl, rfl, by decide +kernel, rfl, by decide +kernel, by decide +kernel⟩
theorem sc_su_leave : FnScope ["record", "i", "t", "state"] ["record", "i", "t"] (defScope s_su_leave) := ⟨rfl, rfl, rfl, by decide +kernel, rfl, by decide +kernel, by decide +kernel⟩
theorem sc_su_owe : FnScope ["record", "i", "x", "state"] ["record", "i", "x"] (defScope s_su_owe) := ⟨rfl, rfl, rfl, by decide +kernel, rfl, by decide +kernel, by decide +kernel⟩
theorem sc_su_pay : FnScope ["record", "i", "x", "state"] ["record", "i", "x"] (defScope s_su_pay) := ⟨rfl, rfl, rfl, by decide +kernel, rfl, by decide +kernel, by decide +kernel⟩
theorem sc_su_part : FnScope ["record", "i", "mode", "p", "q"] ["record", "i", "mode", "p", "q"] (defScope s_su_part) := ⟨rfl, rfl, rfl, by decide +kernel, rfl, by decide +kernel, by decide +kernel⟩
theorem sc_su_join : FnScope ["record", "i", "j", "mode"] ["record", "i", "j", "mode"] (defScope s_su_join) := ⟨rfl, rfl, rfl, by decide +kernel, rfl, by decide +kernel, by decide +kernel⟩
theorem sc_su_follow : FnScope ["record", "i", "t", "state"] ["record", "i", "t"] (defScope s_su_follow) := ⟨rfl, rfl, rfl, by decide +kernel, rfl, by decide +kernel, by decide +kernel⟩
theorem sc_one_more : FnScope ["number"] ["number"] (defScope s_one_more) := ⟨rfl, rfl, rfl, by decide +kernel, rfl, by decide +kernel, by decide +kernel⟩
theorem sc_su_from : FnScope ["record", "i", "state"] ["record", "i"] (defScope s_su_from) := ⟨rfl, rfl, rfl, by decide +kernel, rfl, by decide +kernel, by decide +kernel⟩
theorem sc_su_line : FnScope ["record", "i", "many"] ["record", "i"] (defScope s_su_line) := ⟨rfl, rfl, rfl, by decide +kernel, rfl, by decide +kernel, by decide +kernel⟩
theorem sc_su_heirs : FnScope ["record", "i", "many"] ["record", "i"] (defScope s_su_heirs) := ⟨rfl, rfl, rfl, by decide +kernel, rfl, by decide +kernel, by decide +kernel⟩
theorem sc_su_kin : FnScope ["record", "i", "j"] ["record", "i", "j"] (defScope s_su_kin) := ⟨rfl, rfl, rfl, by decide +kernel, rfl, by decide +kernel, by decide +kernel⟩
theorem sc_su_treaties : FnScope ["record", "i", "state"] ["record", "i"] (defScope s_su_treaties) := ⟨rfl, rfl, rfl, by decide +kernel, rfl, by decide +kernel, by decide +kernel⟩
theorem sc_su_bound : FnScope ["record", "t", "many"] ["record", "t"] (defScope s_su_bound) := ⟨rfl, rfl, rfl, by decide +kernel, rfl, by decide +kernel, by decide +kernel⟩
theorem sc_su_common : FnScope ["record", "i", "j", "both"] ["record", "i", "j"] (defScope s_su_common) := ⟨rfl, rfl, rfl, by decide +kernel, rfl, by decide +kernel, by decide +kernel⟩
theorem sc_su_debt : FnScope ["record", "i"] ["record", "i"] (defScope s_su_debt) := ⟨rfl, rfl, rfl, by decide +kernel, rfl, by decide +kernel, by decide +kernel⟩
theorem sc_su_total : FnScope ["record"] ["record"] (defScope s_su_total) := ⟨rfl, rfl, rfl, by decide +kernel, rfl, by decide +kernel, by decide +kernel⟩
theorem sc_su_whole : FnScope ["record", "t"] ["record", "t"] (defScope s_su_whole) := ⟨rfl, rfl, rfl, by decide +kernel, rfl, by decide +kernel, by decide +kernel⟩
theorem sc_su_could : FnScope ["record", "i", "state", "could"] ["record", "i"] (defScope s_su_could) := ⟨rfl, rfl, rfl, by decide +kernel, rfl, by decide +kernel, by decide +kernel⟩
theorem sc_su_would : FnScope ["record", "i", "p", "q", "owes", "kept"] ["record", "i", "p", "q"] (defScope s_su_would) := ⟨rfl, rfl, rfl, by decide +kernel, rfl, by decide +kernel, by decide +kernel⟩
theorem sc_su_state : FnScope ["record"] ["record"] (defScope s_su_state) := ⟨rfl, rfl, rfl, by decide +kernel, rfl, by decide +kernel, by decide +kernel⟩
theorem sc_su_back : FnScope ["record"] ["record"] (defScope s_su_back) := ⟨rfl, rfl, rfl, by decide +kernel, rfl, by decide +kernel, by decide +kernel⟩
theorem sc_su_again : FnScope ["record"] ["record"] (defScope s_su_again) := ⟨rfl, rfl, rfl, by decide +kernel, rfl, by decide +kernel, by decide +kernel⟩
theorem sc_make_change : FnScope ["record", "number", "given"] ["record", "number", "given"] (defScope s_make_change) := ⟨rfl, rfl, rfl, by decide +kernel, rfl, by decide +kernel, by decide +kernel⟩
theorem sc_answer_change : FnScope ["record", "number", "given", "before", "answered"] ["record", "number", "given"] (defScope s_answer_change) := ⟨rfl, rfl, rfl, by decide +kernel, rfl, by decide +kernel, by decide +kernel⟩
theorem sc_answer_of_treaties_and_debts : FnScope ["record", "number", "given"] ["record", "number", "given"] (defScope s_answer_of_treaties_and_debts) := ⟨rfl, rfl, rfl, by decide +kernel, rfl, by decide +kernel, by decide +kernel⟩
theorem sc_answer_of_descent : FnScope ["record", "number", "given"] ["record", "number", "given"] (defScope s_answer_of_descent) := ⟨rfl, rfl, rfl, by decide +kernel, rfl, by decide +kernel, by decide +kernel⟩
theorem sc_answer_the_rest : FnScope ["record", "number", "given"] ["record", "number", "given"] (defScope s_answer_the_rest) := ⟨rfl, rfl, rfl, by decide +kernel, rfl, by decide +kernel, by decide +kernel⟩
theorem sc_answer_call : FnScope ["record", "number", "given"] ["record", "number", "given"] (defScope s_answer_call) := ⟨rfl, rfl, rfl, by decide +kernel, rfl, by decide +kernel, by decide +kernel⟩
theorem sc_answers : FnScope ["calls", "record", "told", "place", "number", "end", "answered"] ["calls"] (defScope s_answers) := ⟨rfl, rfl, rfl, by decide +kernel, rfl, by decide +kernel, by decide +kernel⟩
structure Nm where
  f_wrong_start : Addr
  d_wrong_start : FuncData
  f_wrong_units : Addr
  d_wrong_units : FuncData
  f_wrong_mode : Addr
  d_wrong_mode : FuncData
  f_wrong_parts : Addr
  d_wrong_parts : FuncData
  f_is_in : Addr
  d_is_in : FuncData
  f_with_one : Addr
  d_with_one : FuncData
  f_without_one : Addr
  d_without_one : FuncData
  f_how_many : Addr
  d_how_many : FuncData
  f_kept_share : Addr
  d_kept_share : FuncData
  f_State_init : Addr
  d_State_init : FuncData
  f_State_is_there : Addr
  d_State_is_there : FuncData
  f_State_vanish_into : Addr
  d_State_vanish_into : FuncData
  f_State_copied : Addr
  d_State_copied : FuncData
  f_Record_init : Addr
  d_Record_init : FuncData
  f_Record_begin : Addr
  d_Record_begin : FuncData
  f_Record_has_state : Addr
  d_Record_has_state : FuncData
  f_Record_had_state : Addr
  d_Record_had_state : FuncData
  f_Record_has_treaty : Addr
  d_Record_has_treaty : FuncData
  f_Record_is_full : Addr
  d_Record_is_full : FuncData
  f_Record_who_is_there : Addr
  d_Record_who_is_there : FuncData
  f_Record_total_debt : Addr
  d_Record_total_debt : FuncData
  f_Record_who_is_bound : Addr
  d_Record_who_is_bound : FuncData
  f_Record_line : Addr
  d_Record_line : FuncData
  f_Record_ends_up_in : Addr
  d_Record_ends_up_in : FuncData
  f_Record_heirs : Addr
  d_Record_heirs : FuncData
  f_Record_part : Addr
  d_Record_part : FuncData
  f_Record_take_up : Addr
  d_Record_take_up : FuncData
  f_Record_copied_states : Addr
  d_Record_copied_states : FuncData
  f_Record_keep_change : Addr
  d_Record_keep_change : FuncData
  f_Record_take_back : Addr
  d_Record_take_back : FuncData
  f_Record_do_again : Addr
  d_Record_do_again : FuncData
  f_su_start : Addr
  d_su_start : FuncData
  f_su_sign : Addr
  d_su_sign : FuncData
  f_su_leave : Addr
  d_su_leave : FuncData
  f_su_owe : Addr
  d_su_owe : FuncData
  f_su_pay : Addr
  d_su_pay : FuncData
  f_su_part : Addr
  d_su_part : FuncData
  f_su_join : Addr
  d_su_join : FuncData
  f_su_follow : Addr
  d_su_follow : FuncData
  f_one_more : Addr
  d_one_more : FuncData
  f_su_from : Addr
  d_su_from : FuncData
  f_su_line : Addr
  d_su_line : FuncData
  f_su_heirs : Addr
  d_su_heirs : FuncData
  f_su_kin : Addr
  d_su_kin : FuncData
  f_su_treaties : Addr
  d_su_treaties : FuncData
  f_su_bound : Addr
  d_su_bound : FuncData
  f_su_common : Addr
  d_su_common : FuncData
  f_su_debt : Addr
  d_su_debt : FuncData
  f_su_total : Addr
  d_su_total : FuncData
  f_su_whole : Addr
  d_su_whole : FuncData
  f_su_could : Addr
  d_su_could : FuncData
  f_su_would : Addr
  d_su_would : FuncData
  f_su_state : Addr
  d_su_state : FuncData
  f_su_back : Addr
  d_su_back : FuncData
  f_su_again : Addr
  d_su_again : FuncData
  f_make_change : Addr
  d_make_change : FuncData
  f_answer_change : Addr
  d_answer_change : FuncData
  f_answer_of_treaties_and_debts : Addr
  d_answer_of_treaties_and_debts : FuncData
  f_answer_of_descent : Addr
  d_answer_of_descent : FuncData
  f_answer_the_rest : Addr
  d_answer_the_rest : FuncData
  f_answer_call : Addr
  d_answer_call : FuncData
  f_answers : Addr
  d_answers : FuncData
  c_State : Addr
  c_Record : Addr
  t_SIZES : Addr
structure Txt (n : Nm) (K : PySem.W.Frag) (mg : Str → Option Value) : Prop where
  F_wrong_start : Fun K "wrong_start" "wrong_start" s_wrong_start n.f_wrong_start n.d_wrong_start
  b_wrong_start : Binds K n.d_wrong_start ["n", "t"] []
  m_wrong_start : mg "wrong_start" = some (.ref n.f_wrong_start)
  F_wrong_units : Fun K "wrong_units" "wrong_units" s_wrong_units n.f_wrong_units n.d_wrong_units
  b_wrong_units : Binds K n.d_wrong_units ["x"] []
  m_wrong_units : mg "wrong_units" = some (.ref n.f_wrong_units)
  F_wrong_mode : Fun K "wrong_mode" "wrong_mode" s_wrong_mode n.f_wrong_mode n.d_wrong_mode
  b_wrong_mode : Binds K n.d_wrong_mode ["mode"] []
  m_wrong_mode : mg "wrong_mode" = some (.ref n.f_wrong_mode)
  F_wrong_parts : Fun K "wrong_parts" "wrong_parts" s_wrong_parts n.f_wrong_parts n.d_wrong_parts
  b_wrong_parts : Binds K n.d_wrong_parts ["p", "q"] []
  m_wrong_parts : mg "wrong_parts" = some (.ref n.f_wrong_parts)
  F_is_in : Fun K "is_in" "is_in" s_is_in n.f_is_in n.d_is_in
  b_is_in : Binds K n.d_is_in ["one", "many"] []
  m_is_in : mg "is_in" = some (.ref n.f_is_in)
  F_with_one : Fun K "with_one" "with_one" s_with_one n.f_with_one n.d_with_one
  b_with_one : Binds K n.d_with_one ["one", "many"] []
  m_with_one : mg "with_one" = some (.ref n.f_with_one)
  F_without_one : Fun K "without_one" "without_one" s_without_one n.f_without_one n.d_without_one
  b_without_one : Binds K n.d_without_one ["one", "many"] []
  m_without_one : mg "without_one" = some (.ref n.f_without_one)
  F_how_many : Fun K "how_many" "how_many" s_how_many n.f_how_many n.d_how_many
  b_how_many : Binds K n.d_how_many ["many"] []
  m_how_many : mg "how_many" = some (.ref n.f_how_many)
  F_kept_share : Fun K "kept_share" "kept_share" s_kept_share n.f_kept_share n.d_kept_share
  b_kept_share : Binds K n.d_kept_share ["owes", "p", "q"] []
  m_kept_share : mg "kept_share" = some (.ref n.f_kept_share)
  F_State_init : Fun K "__init__" "State.__init__" s_State_init n.f_State_init n.d_State_init
  b_State_init : Binds K n.d_State_init ["self", "bound", "may_follow", "owes", "parted_from"] []
  F_State_is_there : Fun K "is_there" "State.is_there" s_State_is_there n.f_State_is_there n.d_State_is_there
  b_State_is_there : Binds K n.d_State_is_there ["self"] []
  M_State_is_there : Meth K n.c_State "is_there" n.f_State_is_there
  F_State_vanish_into : Fun K "vanish_into" "State.vanish_into" s_State_vanish_into n.f_State_vanish_into n.d_State_vanish_into
  b_State_vanish_into : Binds K n.d_State_vanish_into ["self", "taker"] []
  M_State_vanish_into : Meth K n.c_State "vanish_into" n.f_State_vanish_into
  F_State_copied : Fun K "copied" "State.copied" s_State_copied n.f_State_copied n.d_State_copied
  b_State_copied : Binds K n.d_State_copied ["self"] []
  M_State_copied : Meth K n.c_State "copied" n.f_State_copied
  F_Record_init : Fun K "__init__" "Record.__init__" s_Record_init n.f_Record_init n.d_Record_init
  b_Record_init : Binds K n.d_Record_init ["self"] []
  F_Record_begin : Fun K "begin" "Record.begin" s_Record_begin n.f_Record_begin n.d_Record_begin
  b_Record_begin : Binds K n.d_Record_begin ["self", "n", "t"] []
  M_Record_begin : Meth K n.c_Record "begin" n.f_Record_begin
  F_Record_has_state : Fun K "has_state" "Record.has_state" s_Record_has_state n.f_Record_has_state n.d_Record_has_state
  b_Record_has_state : Binds K n.d_Record_has_state ["self", "i"] []
  M_Record_has_state : Meth K n.c_Record "has_state" n.f_Record_has_state
  F_Record_had_state : Fun K "had_state" "Record.had_state" s_Record_had_state n.f_Record_had_state n.d_Record_had_state
  b_Record_had_state : Binds K n.d_Record_had_state ["self", "i"] []
  M_Record_had_state : Meth K n.c_Record "had_state" n.f_Record_had_state
  F_Record_has_treaty : Fun K "has_treaty" "Record.has_treaty" s_Record_has_treaty n.f_Record_has_treaty n.d_Record_has_treaty
  b_Record_has_treaty : Binds K n.d_Record_has_treaty ["self", "t"] []
  M_Record_has_treaty : Meth K n.c_Record "has_treaty" n.f_Record_has_treaty
  F_Record_is_full : Fun K "is_full" "Record.is_full" s_Record_is_full n.f_Record_is_full n.d_Record_is_full
  b_Record_is_full : Binds K n.d_Record_is_full ["self"] []
  M_Record_is_full : Meth K n.c_Record "is_full" n.f_Record_is_full
  F_Record_who_is_there : Fun K "who_is_there" "Record.who_is_there" s_Record_who_is_there n.f_Record_who_is_there n.d_Record_who_is_there
  b_Record_who_is_there : Binds K n.d_Record_who_is_there ["self"] []
  M_Record_who_is_there : Meth K n.c_Record "who_is_there" n.f_Record_who_is_there
  F_Record_total_debt : Fun K "total_debt" "Record.total_debt" s_Record_total_debt n.f_Record_total_debt n.d_Record_total_debt
  b_Record_total_debt : Binds K n.d_Record_total_debt ["self"] []
  M_Record_total_debt : Meth K n.c_Record "total_debt" n.f_Record_total_debt
  F_Record_who_is_bound : Fun K "who_is_bound" "Record.who_is_bound" s_Record_who_is_bound n.f_Record_who_is_bound n.d_Record_who_is_bound
  b_Record_who_is_bound : Binds K n.d_Record_who_is_bound ["self", "t"] []
  M_Record_who_is_bound : Meth K n.c_Record "who_is_bound" n.f_Record_who_is_bound
  F_Record_line : Fun K "line" "Record.line" s_Record_line n.f_Record_line n.d_Record_line
  b_Record_line : Binds K n.d_Record_line ["self", "i"] []
  M_Record_line : Meth K n.c_Record "line" n.f_Record_line
  F_Record_ends_up_in : Fun K "ends_up_in" "Record.ends_up_in" s_Record_ends_up_in n.f_Record_ends_up_in n.d_Record_ends_up_in
  b_Record_ends_up_in : Binds K n.d_Record_ends_up_in ["self", "i"] []
  M_Record_ends_up_in : Meth K n.c_Record "ends_up_in" n.f_Record_ends_up_in
  F_Record_heirs : Fun K "heirs" "Record.heirs" s_Record_heirs n.f_Record_heirs n.d_Record_heirs
  b_Record_heirs : Binds K n.d_Record_heirs ["self", "i"] []
  M_Record_heirs : Meth K n.c_Record "heirs" n.f_Record_heirs
  F_Record_part : Fun K "part" "Record.part" s_Record_part n.f_Record_part n.d_Record_part
  b_Record_part : Binds K n.d_Record_part ["self", "i", "mode", "p", "q"] []
  M_Record_part : Meth K n.c_Record "part" n.f_Record_part
  F_Record_take_up : Fun K "take_up" "Record.take_up" s_Record_take_up n.f_Record_take_up n.d_Record_take_up
  b_Record_take_up : Binds K n.d_Record_take_up ["self", "i", "j", "mode"] []
  M_Record_take_up : Meth K n.c_Record "take_up" n.f_Record_take_up
  F_Record_copied_states : Fun K "copied_states" "Record.copied_states" s_Record_copied_states n.f_Record_copied_states n.d_Record_copied_states
  b_Record_copied_states : Binds K n.d_Record_copied_states ["self"] []
  M_Record_copied_states : Meth K n.c_Record "copied_states" n.f_Record_copied_states
  F_Record_keep_change : Fun K "keep_change" "Record.keep_change" s_Record_keep_change n.f_Record_keep_change n.d_Record_keep_change
  b_Record_keep_change : Binds K n.d_Record_keep_change ["self", "before"] []
  M_Record_keep_change : Meth K n.c_Record "keep_change" n.f_Record_keep_change
  F_Record_take_back : Fun K "take_back" "Record.take_back" s_Record_take_back n.f_Record_take_back n.d_Record_take_back
  b_Record_take_back : Binds K n.d_Record_take_back ["self"] []
  M_Record_take_back : Meth K n.c_Record "take_back" n.f_Record_take_back
  F_Record_do_again : Fun K "do_again" "Record.do_again" s_Record_do_again n.f_Record_do_again n.d_Record_do_again
  b_Record_do_again : Binds K n.d_Record_do_again ["self"] []
  M_Record_do_again : Meth K n.c_Record "do_again" n.f_Record_do_again
  F_su_start : Fun K "su_start" "su_start" s_su_start n.f_su_start n.d_su_start
  b_su_start : Binds K n.d_su_start ["record", "n", "t"] []
  m_su_start : mg "su_start" = some (.ref n.f_su_start)
  F_su_sign : Fun K "su_sign" "su_sign" s_su_sign n.f_su_sign n.d_su_sign
  b_su_sign : Binds K n.d_su_sign ["record", "i", "t"] []
  m_su_sign : mg "su_sign" = some (.ref n.f_su_sign)
  F_su_leave : Fun K "su_leave" "su_leave" s_su_leave n.f_su_leave n.d_su_leave
  b_su_leave : Binds K n.d_su_leave ["record", "i", "t"] []
  m_su_leave : mg "su_leave" = some (.ref n.f_su_leave)
  F_su_owe : Fun K "su_owe" "su_owe" s_su_owe n.f_su_owe n.d_su_owe
  b_su_owe : Binds K n.d_su_owe ["record", "i", "x"] []
  m_su_owe : mg "su_owe" = some (.ref n.f_su_owe)
  F_su_pay : Fun K "su_pay" "su_pay" s_su_pay n.f_su_pay n.d_su_pay
  b_su_pay : Binds K n.d_su_pay ["record", "i", "x"] []
  m_su_pay : mg "su_pay" = some (.ref n.f_su_pay)
  F_su_part : Fun K "su_part" "su_part" s_su_part n.f_su_part n.d_su_part
  b_su_part : Binds K n.d_su_part ["record", "i", "mode", "p", "q"] []
  m_su_part : mg "su_part" = some (.ref n.f_su_part)
  F_su_join : Fun K "su_join" "su_join" s_su_join n.f_su_join n.d_su_join
  b_su_join : Binds K n.d_su_join ["record", "i", "j", "mode"] []
  m_su_join : mg "su_join" = some (.ref n.f_su_join)
  F_su_follow : Fun K "su_follow" "su_follow" s_su_follow n.f_su_follow n.d_su_follow
  b_su_follow : Binds K n.d_su_follow ["record", "i", "t"] []
  m_su_follow : mg "su_follow" = some (.ref n.f_su_follow)
  F_one_more : Fun K "one_more" "one_more" s_one_more n.f_one_more n.d_one_more
  b_one_more : Binds K n.d_one_more ["number"] []
  m_one_more : mg "one_more" = some (.ref n.f_one_more)
  F_su_from : Fun K "su_from" "su_from" s_su_from n.f_su_from n.d_su_from
  b_su_from : Binds K n.d_su_from ["record", "i"] []
  m_su_from : mg "su_from" = some (.ref n.f_su_from)
  F_su_line : Fun K "su_line" "su_line" s_su_line n.f_su_line n.d_su_line
  b_su_line : Binds K n.d_su_line ["record", "i"] []
  m_su_line : mg "su_line" = some (.ref n.f_su_line)
  F_su_heirs : Fun K "su_heirs" "su_heirs" s_su_heirs n.f_su_heirs n.d_su_heirs
  b_su_heirs : Binds K n.d_su_heirs ["record", "i"] []
  m_su_heirs : mg "su_heirs" = some (.ref n.f_su_heirs)
  F_su_kin : Fun K "su_kin" "su_kin" s_su_kin n.f_su_kin n.d_su_kin
  b_su_kin : Binds K n.d_su_kin ["record", "i", "j"] []
  m_su_kin : mg "su_kin" = some (.ref n.f_su_kin)
  F_su_treaties : Fun K "su_treaties" "su_treaties" s_su_treaties n.f_su_treaties n.d_su_treaties
  b_su_treaties : Binds K n.d_su_treaties ["record", "i"] []
  m_su_treaties : mg "su_treaties" = some (.ref n.f_su_treaties)
  F_su_bound : Fun K "su_bound" "su_bound" s_su_bound n.f_su_bound n.d_su_bound
  b_su_bound : Binds K n.d_su_bound ["record", "t"] []
  m_su_bound : mg "su_bound" = some (.ref n.f_su_bound)
  F_su_common : Fun K "su_common" "su_common" s_su_common n.f_su_common n.d_su_common
  b_su_common : Binds K n.d_su_common ["record", "i", "j"] []
  m_su_common : mg "su_common" = some (.ref n.f_su_common)
  F_su_debt : Fun K "su_debt" "su_debt" s_su_debt n.f_su_debt n.d_su_debt
  b_su_debt : Binds K n.d_su_debt ["record", "i"] []
  m_su_debt : mg "su_debt" = some (.ref n.f_su_debt)
  F_su_total : Fun K "su_total" "su_total" s_su_total n.f_su_total n.d_su_total
  b_su_total : Binds K n.d_su_total ["record"] []
  m_su_total : mg "su_total" = some (.ref n.f_su_total)
  F_su_whole : Fun K "su_whole" "su_whole" s_su_whole n.f_su_whole n.d_su_whole
  b_su_whole : Binds K n.d_su_whole ["record", "t"] []
  m_su_whole : mg "su_whole" = some (.ref n.f_su_whole)
  F_su_could : Fun K "su_could" "su_could" s_su_could n.f_su_could n.d_su_could
  b_su_could : Binds K n.d_su_could ["record", "i"] []
  m_su_could : mg "su_could" = some (.ref n.f_su_could)
  F_su_would : Fun K "su_would" "su_would" s_su_would n.f_su_would n.d_su_would
  b_su_would : Binds K n.d_su_would ["record", "i", "p", "q"] []
  m_su_would : mg "su_would" = some (.ref n.f_su_would)
  F_su_state : Fun K "su_state" "su_state" s_su_state n.f_su_state n.d_su_state
  b_su_state : Binds K n.d_su_state ["record"] []
  m_su_state : mg "su_state" = some (.ref n.f_su_state)
  F_su_back : Fun K "su_back" "su_back" s_su_back n.f_su_back n.d_su_back
  b_su_back : Binds K n.d_su_back ["record"] []
  m_su_back : mg "su_back" = some (.ref n.f_su_back)
  F_su_again : Fun K "su_again" "su_again" s_su_again n.f_su_again n.d_su_again
  b_su_again : Binds K n.d_su_again ["record"] []
  m_su_again : mg "su_again" = some (.ref n.f_su_again)
  F_make_change : Fun K "make_change" "make_change" s_make_change n.f_make_change n.d_make_change
  b_make_change : Binds K n.d_make_change ["record", "number", "given"] []
  m_make_change : mg "make_change" = some (.ref n.f_make_change)
  F_answer_change : Fun K "answer_change" "answer_change" s_answer_change n.f_answer_change n.d_answer_change
  b_answer_change : Binds K n.d_answer_change ["record", "number", "given"] []
  m_answer_change : mg "answer_change" = some (.ref n.f_answer_change)
  F_answer_of_treaties_and_debts : Fun K "answer_of_treaties_and_debts" "answer_of_treaties_and_debts" s_answer_of_treaties_and_debts n.f_answer_of_treaties_and_debts n.d_answer_of_treaties_and_debts
  b_answer_of_treaties_and_debts : Binds K n.d_answer_of_treaties_and_debts ["record", "number", "given"] []
  m_answer_of_treaties_and_debts : mg "answer_of_treaties_and_debts" = some (.ref n.f_answer_of_treaties_and_debts)
  F_answer_of_descent : Fun K "answer_of_descent" "answer_of_descent" s_answer_of_descent n.f_answer_of_descent n.d_answer_of_descent
  b_answer_of_descent : Binds K n.d_answer_of_descent ["record", "number", "given"] []
  m_answer_of_descent : mg "answer_of_descent" = some (.ref n.f_answer_of_descent)
  F_answer_the_rest : Fun K "answer_the_rest" "answer_the_rest" s_answer_the_rest n.f_answer_the_rest n.d_answer_the_rest
  b_answer_the_rest : Binds K n.d_answer_the_rest ["record", "number", "given"] []
  m_answer_the_rest : mg "answer_the_rest" = some (.ref n.f_answer_the_rest)
  F_answer_call : Fun K "answer_call" "answer_call" s_answer_call n.f_answer_call n.d_answer_call
  b_answer_call : Binds K n.d_answer_call ["record", "number", "given"] []
  m_answer_call : mg "answer_call" = some (.ref n.f_answer_call)
  F_answers : Fun K "answers" "answers" s_answers n.f_answers n.d_answers
  b_answers : Binds K n.d_answers ["calls"] []
  m_answers : mg "answers" = some (.ref n.f_answers)
  cl_State : Cls K n.c_State
  m_State : mg "State" = some (.ref n.c_State)
  mk_State : Mk K n.c_State n.f_State_init
  na_State_bound : NoAttr K n.c_State "bound"
  na_State_may_follow : NoAttr K n.c_State "may_follow"
  na_State_owes : NoAttr K n.c_State "owes"
  na_State_parted_from : NoAttr K n.c_State "parted_from"
  na_State_taken_by : NoAttr K n.c_State "taken_by"
  cl_Record : Cls K n.c_Record
  m_Record : mg "Record" = some (.ref n.c_Record)
  mk_Record : Mk K n.c_Record n.f_Record_init
  na_Record_treaties : NoAttr K n.c_Record "treaties"
  na_Record_states : NoAttr K n.c_Record "states"
  na_Record_earlier : NoAttr K n.c_Record "earlier"
  na_Record_undone : NoAttr K n.c_Record "undone"
  g_MOST_AT_START : ∃ t, mg "MOST_AT_START" = some (.int (4) t)
  g_MOST_TREATIES : ∃ t, mg "MOST_TREATIES" = some (.int (8) t)
  g_MOST_UNITS : ∃ t, mg "MOST_UNITS" = some (.int (1000000) t)
  g_MOST_OWED : ∃ t, mg "MOST_OWED" = some (.int (10000000) t)
  g_MOST_PARTS : ∃ t, mg "MOST_PARTS" = some (.int (9) t)
  g_MOST_STATES : ∃ t, mg "MOST_STATES" = some (.int (12) t)
  g_MOST_TAKEN_BACK : ∃ t, mg "MOST_TAKEN_BACK" = some (.int (20) t)
  g_THERE_IS_NONE : ∃ t, mg "THERE_IS_NONE" = some (.int (-2) t)
  g_NOT_SO : ∃ t, mg "NOT_SO" = some (.int (-6) t)
  g_OWES_LESS : ∃ t, mg "OWES_LESS" = some (.int (-12) t)
  g_BOUND_ALREADY : ∃ t, mg "BOUND_ALREADY" = some (.int (-17) t)
  g_WRONG_NUMBER : ∃ t, mg "WRONG_NUMBER" = some (.int (-22) t)
  g_NO_MORE_STATES : ∃ t, mg "NO_MORE_STATES" = some (.int (-28) t)
  g_TOO_MUCH_OWED : ∃ t, mg "TOO_MUCH_OWED" = some (.int (-75) t)
  g_SIZES : mg "SIZES" = some (.ref n.t_SIZES)
  gt_SIZES : ∀ H : Hp, SqT K H n.t_SIZES [V.int 2, V.int 2, V.int 2, V.int 2, V.int 2, V.int 4, V.int 3, V.int 2, V.int 1, V.int 1, V.int 2, V.int 1, V.int 0, V.int 1, V.int 1, V.int 1, V.int 2, V.int 1, V.int 1, V.int 3, V.int 0, V.int 0, V.int 0]
  g_LAST_CHANGE : ∃ t, mg "LAST_CHANGE" = some (.int (7) t)
  g_LAST_OF_TREATIES_AND_DEBTS : ∃ t, mg "LAST_OF_TREATIES_AND_DEBTS" = some (.int (12) t)
  g_LAST_OF_DESCENT : ∃ t, mg "LAST_OF_DESCENT" = some (.int (16) t)
  no_enumerate : mg "enumerate" = none
  no_len : mg "len" = none
  no_range : mg "range" = none
  no_sum : mg "sum" = none
theorem pe_gint {X : Cx} {x : Str} {i : Int} {pos : Pos} (hg : Gl X x) (h : ∃ t, X.mg x = some (.int i t)) (hd : (x == ("__debug__" : Str)) = false := by decide) : PE X (.Name x pos) (tC (.int i)) :=
  h.elim fun t e => pe_glob hg e ⟨t, rfl⟩ hd
def fl_State (v_bound v_may_follow v_owes v_parted_from v_taken_by : V) : List (Str × V) := [("bound", v_bound), ("may_follow", v_may_follow), ("owes", v_owes), ("parted_from", v_parted_from), ("taken_by", v_taken_by)]
theorem lk_State_bound (v_bound v_may_follow v_owes v_parted_from v_taken_by : V) : (fl_State v_bound v_may_follow v_owes v_parted_from v_taken_by).lookup ("bound" : Str) = some v_bound := rfl
theorem pt_State_bound (v_bound v_may_follow v_owes v_parted_from v_taken_by v : V) : putF ("bound" : Str) v (fl_State v_bound v_may_follow v_owes v_parted_from v_taken_by) = fl_State v v_may_follow v_owes v_parted_from v_taken_by := rfl
theorem lk_State_may_follow (v_bound v_may_follow v_owes v_parted_from v_taken_by : V) : (fl_State v_bound v_may_follow v_owes v_parted_from v_taken_by).lookup ("may_follow" : Str) = some v_may_follow := rfl
theorem pt_State_may_follow (v_bound v_may_follow v_owes v_parted_from v_taken_by v : V) : putF ("may_follow" : Str) v (fl_State v_bound v_may_follow v_owes v_parted_from v_taken_by) = fl_State v_bound v v_owes v_parted_from v_taken_by := rfl
theorem lk_State_owes (v_bound v_may_follow v_owes v_parted_from v_taken_by : V) : (fl_State v_bound v_may_follow v_owes v_parted_from v_taken_by).lookup ("owes" : Str) = some v_owes := rfl
theorem pt_State_owes (v_bound v_may_follow v_owes v_parted_from v_taken_by v : V) : putF ("owes" : Str) v (fl_State v_bound v_may_follow v_owes v_parted_from v_taken_by) = fl_State v_bound v_may_follow v v_parted_from v_taken_by := rfl
theorem lk_State_parted_from (v_bound v_may_follow v_owes v_parted_from v_taken_by : V) : (fl_State v_bound v_may_follow v_owes v_parted_from v_taken_by).lookup ("parted_from" : Str) = some v_parted_from := rfl
theorem pt_State_parted_from (v_bound v_may_follow v_owes v_parted_from v_taken_by v : V) : putF ("parted_from" : Str) v (fl_State v_bound v_may_follow v_owes v_parted_from v_taken_by) = fl_State v_bound v_may_follow v_owes v v_taken_by := rfl
theorem lk_State_taken_by (v_bound v_may_follow v_owes v_parted_from v_taken_by : V) : (fl_State v_bound v_may_follow v_owes v_parted_from v_taken_by).lookup ("taken_by" : Str) = some v_taken_by := rfl
theorem pt_State_taken_by (v_bound v_may_follow v_owes v_parted_from v_taken_by v : V) : putF ("taken_by" : Str) v (fl_State v_bound v_may_follow v_owes v_parted_from v_taken_by) = fl_State v_bound v_may_follow v_owes v_parted_from v := rfl
theorem lk_State_init_m (v_bound v_may_follow v_owes v_parted_from v_taken_by : V) : (fl_State v_bound v_may_follow v_owes v_parted_from v_taken_by).lookup ("__init__" : Str) = none := rfl
theorem lk_State_is_there_m (v_bound v_may_follow v_owes v_parted_from v_taken_by : V) : (fl_State v_bound v_may_follow v_owes v_parted_from v_taken_by).lookup ("is_there" : Str) = none := rfl
theorem lk_State_vanish_into_m (v_bound v_may_follow v_owes v_parted_from v_taken_by : V) : (fl_State v_bound v_may_follow v_owes v_parted_from v_taken_by).lookup ("vanish_into" : Str) = none := rfl
theorem lk_State_copied_m (v_bound v_may_follow v_owes v_parted_from v_taken_by : V) : (fl_State v_bound v_may_follow v_owes v_parted_from v_taken_by).lookup ("copied" : Str) = none := rfl
theorem ln_State (v_bound v_may_follow v_owes v_parted_from v_taken_by : V) : (fl_State v_bound v_may_follow v_owes v_parted_from v_taken_by).length < 1000 := by show 5 < 1000; decide
theorem p0_State (v_bound : V) : putF ("bound" : Str) v_bound ([] : List (Str × V)) = [(("bound" : Str), v_bound)] := rfl
theorem p1_State (v_bound v_may_follow : V) : putF ("may_follow" : Str) v_may_follow ([(("bound" : Str), v_bound)] : List (Str × V)) = [(("bound" : Str), v_bound), (("may_follow" : Str), v_may_follow)] := rfl
theorem p2_State (v_bound v_may_follow v_owes : V) : putF ("owes" : Str) v_owes ([(("bound" : Str), v_bound), (("may_follow" : Str), v_may_follow)] : List (Str × V)) = [(("bound" : Str), v_bound), (("may_follow" : Str), v_may_follow), (("owes" : Str), v_owes)] := rfl
theorem p3_State (v_bound v_may_follow v_owes v_parted_from : V) : putF ("parted_from" : Str) v_parted_from ([(("bound" : Str), v_bound), (("may_follow" : Str), v_may_follow), (("owes" : Str), v_owes)] : List (Str × V)) = [(("bound" : Str), v_bound), (("may_follow" : Str), v_may_follow), (("owes" : Str), v_owes), (("parted_from" : Str), v_parted_from)] := rfl
theorem p4_State (v_bound v_may_follow v_owes v_parted_from v_taken_by : V) : putF ("taken_by" : Str) v_taken_by ([(("bound" : Str), v_bound), (("may_follow" : Str), v_may_follow), (("owes" : Str), v_owes), (("parted_from" : Str), v_parted_from)] : List (Str × V)) = fl_State v_bound v_may_follow v_owes v_parted_from v_taken_by := rfl
def fl_Record (v_treaties v_states v_earlier v_undone : V) : List (Str × V) := [("treaties", v_treaties), ("states", v_states), ("earlier", v_earlier), ("undone", v_undone)]
theorem lk_Record_treaties (v_treaties v_states v_earlier v_undone : V) : (fl_Record v_treaties v_states v_earlier v_undone).lookup ("treaties" : Str) = some v_treaties := rfl
theorem pt_Record_treaties (v_treaties v_states v_earlier v_undone v : V) : putF ("treaties" : Str) v (fl_Record v_treaties v_states v_earlier v_undone) = fl_Record v v_states v_earlier v_undone := rfl
theorem lk_Record_states (v_treaties v_states v_earlier v_undone : V) : (fl_Record v_treaties v_states v_earlier v_undone).lookup ("states" : Str) = some v_states := rfl
theorem pt_Record_states (v_treaties v_states v_earlier v_undone v : V) : putF ("states" : Str) v (fl_Record v_treaties v_states v_earlier v_undone) = fl_Record v_treaties v v_earlier v_undone := rfl
theorem lk_Record_earlier (v_treaties v_states v_earlier v_undone : V) : (fl_Record v_treaties v_states v_earlier v_undone).lookup ("earlier" : Str) = some v_earlier := rfl
theorem pt_Record_earlier (v_treaties v_states v_earlier v_undone v : V) : putF ("earlier" : Str) v (fl_Record v_treaties v_states v_earlier v_undone) = fl_Record v_treaties v_states v v_undone := rfl
theorem lk_Record_undone (v_treaties v_states v_earlier v_undone : V) : (fl_Record v_treaties v_states v_earlier v_undone).lookup ("undone" : Str) = some v_undone := rfl
theorem pt_Record_undone (v_treaties v_states v_earlier v_undone v : V) : putF ("undone" : Str) v (fl_Record v_treaties v_states v_earlier v_undone) = fl_Record v_treaties v_states v_earlier v := rfl
theorem lk_Record_init_m (v_treaties v_states v_earlier v_undone : V) : (fl_Record v_treaties v_states v_earlier v_undone).lookup ("__init__" : Str) = none := rfl
theorem lk_Record_begin_m (v_treaties v_states v_earlier v_undone : V) : (fl_Record v_treaties v_states v_earlier v_undone).lookup ("begin" : Str) = none := rfl
theorem lk_Record_has_state_m (v_treaties v_states v_earlier v_undone : V) : (fl_Record v_treaties v_states v_earlier v_undone).lookup ("has_state" : Str) = none := rfl
theorem lk_Record_had_state_m (v_treaties v_states v_earlier v_undone : V) : (fl_Record v_treaties v_states v_earlier v_undone).lookup ("had_state" : Str) = none := rfl
theorem lk_Record_has_treaty_m (v_treaties v_states v_earlier v_undone : V) : (fl_Record v_treaties v_states v_earlier v_undone).lookup ("has_treaty" : Str) = none := rfl
theorem lk_Record_is_full_m (v_treaties v_states v_earlier v_undone : V) : (fl_Record v_treaties v_states v_earlier v_undone).lookup ("is_full" : Str) = none := rfl
theorem lk_Record_who_is_there_m (v_treaties v_states v_earlier v_undone : V) : (fl_Record v_treaties v_states v_earlier v_undone).lookup ("who_is_there" : Str) = none := rfl
theorem lk_Record_total_debt_m (v_treaties v_states v_earlier v_undone : V) : (fl_Record v_treaties v_states v_earlier v_undone).lookup ("total_debt" : Str) = none := rfl
theorem lk_Record_who_is_bound_m (v_treaties v_states v_earlier v_undone : V) : (fl_Record v_treaties v_states v_earlier v_undone).lookup ("who_is_bound" : Str) = none := rfl
theorem lk_Record_line_m (v_treaties v_states v_earlier v_undone : V) : (fl_Record v_treaties v_states v_earlier v_undone).lookup ("line" : Str) = none := rfl
theorem lk_Record_ends_up_in_m (v_treaties v_states v_earlier v_undone : V) : (fl_Record v_treaties v_states v_earlier v_undone).lookup ("ends_up_in" : Str) = none := rfl
theorem lk_Record_heirs_m (v_treaties v_states v_earlier v_undone : V) : (fl_Record v_treaties v_states v_earlier v_undone).lookup ("heirs" : Str) = none := rfl
theorem lk_Record_part_m (v_treaties v_states v_earlier v_undone : V) : (fl_Record v_treaties v_states v_earlier v_undone).lookup ("part" : Str) = none := rfl
theorem lk_Record_take_up_m (v_treaties v_states v_earlier v_undone : V) : (fl_Record v_treaties v_states v_earlier v_undone).lookup ("take_up" : Str) = none := rfl
theorem lk_Record_copied_states_m (v_treaties v_states v_earlier v_undone : V) : (fl_Record v_treaties v_states v_earlier v_undone).lookup ("copied_states" : Str) = none := rfl
theorem lk_Record_keep_change_m (v_treaties v_states v_earlier v_undone : V) : (fl_Record v_treaties v_states v_earlier v_undone).lookup ("keep_change" : Str) = none := rfl
theorem lk_Record_take_back_m (v_treaties v_states v_earlier v_undone : V) : (fl_Record v_treaties v_states v_earlier v_undone).lookup ("take_back" : Str) = none := rfl
theorem lk_Record_do_again_m (v_treaties v_states v_earlier v_undone : V) : (fl_Record v_treaties v_states v_earlier v_undone).lookup ("do_again" : Str) = none := rfl
theorem ln_Record (v_treaties v_states v_earlier v_undone : V) : (fl_Record v_treaties v_states v_earlier v_undone).length < 1000 := by show 4 < 1000; decide
theorem p0_Record (v_treaties : V) : putF ("treaties" : Str) v_treaties ([] : List (Str × V)) = [(("treaties" : Str), v_treaties)] := rfl
theorem p1_Record (v_treaties v_states : V) : putF ("states" : Str) v_states ([(("treaties" : Str), v_treaties)] : List (Str × V)) = [(("treaties" : Str), v_treaties), (("states" : Str), v_states)] := rfl
theorem p2_Record (v_treaties v_states v_earlier : V) : putF ("earlier" : Str) v_earlier ([(("treaties" : Str), v_treaties), (("states" : Str), v_states)] : List (Str × V)) = [(("treaties" : Str), v_treaties), (("states" : Str), v_states), (("earlier" : Str), v_earlier)] := rfl
theorem p3_Record (v_treaties v_states v_earlier v_undone : V) : putF ("undone" : Str) v_undone ([(("treaties" : Str), v_treaties), (("states" : Str), v_states), (("earlier" : Str), v_earlier)] : List (Str × V)) = fl_Record v_treaties v_states v_earlier v_undone := rfl
end Sh
set_option Elab.async false
set_option linter.all false
set_option maxRecDepth 100000
set_option maxHeartbeats 4000000
namespace Sh
open PySem PySem.Spec PyProof.Rows L2
theorem vals_abs : ∀ {us : List Value} {xs : List V}, us.map absV = xs.map some → Vals xs us
  | [], [], _ => .nil
  | [], _ :: _, h => by cases h
  | _ :: _, [], h => by cases h
  | u :: us, x :: xs, h => by
    rw [List.map_cons, List.map_cons] at h
    injection h with h1 h2
    refine .cons ?_ (vals_abs h2)
    cases u <;> first | (cases h1; rfl) | (cases h1; exact ⟨_, rfl⟩) | cases h1
theorem tup_of {K : PySem.W.Frag} {H : Hp} {a : Addr} {its : Array Value} {z : Nat} {ws : List (Option V)} {xs : List V} (l : K.lookup a = some ⟨.type "tuple", none, .seq its z, #[]⟩) (v : its.toList.map absV = ws) (e : ws = xs.map some := by rfl) (hz : xs.length ≤ sizeLine := by decide) : SqT K H a xs := by
  subst e
  have r := vals_abs v
  have hl : its.size = xs.length := by rw [← Array.length_toList]; exact r.length.symm
  exact .inr ⟨_, its, z, l, rfl, rfl, by rw [hl]; exact hz, r⟩
theorem txt_mk {K : PySem.W.Frag} {h : Heap} {mg : Str → Option Value} {fa : Addr} (X : K.In h) (G : h.Ns mainGlobals mg) (hfa : mg "answers" = some (.ref fa))
    {c_State : Addr}
    {c_Record : Addr}
    {f_wrong_start : Addr} {od_wrong_start an_wrong_start : Option Addr} {sl_wrong_start : Array (Option Value)} {oc_wrong_start kV_wrong_start dc_wrong_start pm_wrong_start cd_wrong_start ct_wrong_start : Value}
    {f_wrong_units : Addr} {od_wrong_units an_wrong_units : Option Addr} {sl_wrong_units : Array (Option Value)} {oc_wrong_units kV_wrong_units dc_wrong_units pm_wrong_units cd_wrong_units ct_wrong_units : Value}
    {f_wrong_mode : Addr} {od_wrong_mode an_wrong_mode : Option Addr} {sl_wrong_mode : Array (Option Value)} {oc_wrong_mode kV_wrong_mode dc_wrong_mode pm_wrong_mode cd_wrong_mode ct_wrong_mode : Value}
    {f_wrong_parts : Addr} {od_wrong_parts an_wrong_parts : Option Addr} {sl_wrong_parts : Array (Option Value)} {oc_wrong_parts kV_wrong_parts dc_wrong_parts pm_wrong_parts cd_wrong_parts ct_wrong_parts : Value}
    {f_is_in : Addr} {od_is_in an_is_in : Option Addr} {sl_is_in : Array (Option Value)} {oc_is_in kV_is_in dc_is_in pm_is_in cd_is_in ct_is_in : Value}
    {f_with_one : Addr} {od_with_one an_with_one : Option Addr} {sl_with_one : Array (Option Value)} {oc_with_one kV_with_one dc_with_one pm_with_one cd_with_one ct_with_one : Value}
    {f_without_one : Addr} {od_without_one an_without_one : Option Addr} {sl_without_one : Array (Option Value)} {oc_without_one kV_without_one dc_without_one pm_without_one cd_without_one ct_without_one : Value}
    {f_how_many : Addr} {od_how_many an_how_many : Option Addr} {sl_how_many : Array (Option Value)} {oc_how_many kV_how_many dc_how_many pm_how_many cd_how_many ct_how_many : Value}
    {f_kept_share : Addr} {od_kept_share an_kept_share : Option Addr} {sl_kept_share : Array (Option Value)} {oc_kept_share kV_kept_share dc_kept_share pm_kept_share cd_kept_share ct_kept_share : Value}
    {f_State_init : Addr} {od_State_init an_State_init : Option Addr} {sl_State_init : Array (Option Value)} {oc_State_init kV_State_init dc_State_init pm_State_init cd_State_init ct_State_init : Value}
    {f_State_is_there : Addr} {od_State_is_there an_State_is_there : Option Addr} {sl_State_is_there : Array (Option Value)} {oc_State_is_there kV_State_is_there dc_State_is_there pm_State_is_there cd_State_is_there ct_State_is_there : Value}
    {f_State_vanish_into : Addr} {od_State_vanish_into an_State_vanish_into : Option Addr} {sl_State_vanish_into : Array (Option Value)} {oc_State_vanish_into kV_State_vanish_into dc_State_vanish_into pm_State_vanish_into cd_State_vanish_into ct_State_vanish_into : Value}
    {f_State_copied : Addr} {od_State_copied an_State_copied : Option Addr} {sl_State_copied : Array (Option Value)} {oc_State_copied kV_State_copied dc_State_copied pm_State_copied cd_State_copied ct_State_copied : Value}
    {f_Record_init : Addr} {od_Record_init an_Record_init : Option Addr} {sl_Record_init : Array (Option Value)} {oc_Record_init kV_Record_init dc_Record_init pm_Record_init cd_Record_init ct_Record_init : Value}
    {f_Record_begin : Addr} {od_Record_begin an_Record_begin : Option Addr} {sl_Record_begin : Array (Option Value)} {oc_Record_begin kV_Record_begin dc_Record_begin pm_Record_begin cd_Record_begin ct_Record_begin : Value}
    {f_Record_has_state : Addr} {od_Record_has_state an_Record_has_state : Option Addr} {sl_Record_has_state : Array (Option Value)} {oc_Record_has_state kV_Record_has_state dc_Record_has_state pm_Record_has_state cd_Record_has_state ct_Record_has_state : Value}
    {f_Record_had_state : Addr} {od_Record_had_state an_Record_had_state : Option Addr} {sl_Record_had_state : Array (Option Value)} {oc_Record_had_state kV_Record_had_state dc_Record_had_state pm_Record_had_state cd_Record_had_state ct_Record_had_state : Value}
    {f_Record_has_treaty : Addr} {od_Record_has_treaty an_Record_has_treaty : Option Addr} {sl_Record_has_treaty : Array (Option Value)} {oc_Record_has_treaty kV_Record_has_treaty dc_Record_has_treaty pm_Record_has_treaty cd_Record_has_treaty ct_Record_has_treaty : Value}
    {f_Record_is_full : Addr} {od_Record_is_full an_Record_is_full : Option Addr} {sl_Record_is_full : Array (Option Value)} {oc_Record_is_full kV_Record_is_full dc_Record_is_full pm_Record_is_full cd_Record_is_full ct_Record_is_full : Value}
    {f_Record_who_is_there : Addr} {od_Record_who_is_there an_Record_who_is_there : Option Addr} {sl_Record_who_is_there : Array (Option Value)} {oc_Record_who_is_there kV_Record_who_is_there dc_Record_who_is_there pm_Record_who_is_there cd_Record_who_is_there ct_Record_who_is_there : Value}
    {f_Record_total_debt : Addr} {od_Record_total_debt an_Record_total_debt : Option Addr} {sl_Record_total_debt : Array (Option Value)} {oc_Record_total_debt kV_Record_total_debt dc_Record_total_debt pm_Record_total_debt cd_Record_total_debt ct_Record_total_debt : Value}
    {f_Record_who_is_bound : Addr} {od_Record_who_is_bound an_Record_who_is_bound : Option Addr} {sl_Record_who_is_bound : Array (Option Value)} {oc_Record_who_is_bound kV_Record_who_is_bound dc_Record_who_is_bound pm_Record_who_is_bound cd_Record_who_is_bound ct_Record_who_is_bound : Value}
    {f_Record_line : Addr} {od_Record_line an_Record_line : Option Addr} {sl_Record_line : Array (Option Value)} {oc_Record_line kV_Record_line dc_Record_line pm_Record_line cd_Record_line ct_Record_line : Value}
    {f_Record_ends_up_in : Addr} {od_Record_ends_up_in an_Record_ends_up_in : Option Addr} {sl_Record_ends_up_in : Array (Option Value)} {oc_Record_ends_up_in kV_Record_ends_up_in dc_Record_ends_up_in pm_Record_ends_up_in cd_Record_ends_up_in ct_Record_ends_up_in : Value}
    {f_Record_heirs : Addr} {od_Record_heirs an_Record_heirs : Option Addr} {sl_Record_heirs : Array (Option Value)} {oc_Record_heirs kV_Record_heirs dc_Record_heirs pm_Record_heirs cd_Record_heirs ct_Record_heirs : Value}
    {f_Record_part : Addr} {od_Record_part an_Record_part : Option Addr} {sl_Record_part : Array (Option Value)} {oc_Record_part kV_Record_part dc_Record_part pm_Record_part cd_Record_part ct_Record_part : Value}
    {f_Record_take_up : Addr} {od_Record_take_up an_Record_take_up : Option Addr} {sl_Record_take_up : Array (Option Value)} {oc_Record_take_up kV_Record_take_up dc_Record_take_up pm_Record_take_up cd_Record_take_up ct_Record_take_up : Value}
    {f_Record_copied_states : Addr} {od_Record_copied_states an_Record_copied_states : Option Addr} {sl_Record_copied_states : Array (Option Value)} {oc_Record_copied_states kV_Record_copied_states dc_Record_copied_states pm_Record_copied_states cd_Record_copied_states ct_Record_copied_states : Value}
    {f_Record_keep_change : Addr} {od_Record_keep_change an_Record_keep_change : Option Addr} {sl_Record_keep_change : Array (Option Value)} {oc_Record_keep_change kV_Record_keep_change dc_Record_keep_change pm_Record_keep_change cd_Record_keep_change ct_Record_keep_change : Value}
    {f_Record_take_back : Addr} {od_Record_take_back an_Record_take_back : Option Addr} {sl_Record_take_back : Array (Option Value)} {oc_Record_take_back kV_Record_take_back dc_Record_take_back pm_Record_take_back cd_Record_take_back ct_Record_take_back : Value}
    {f_Record_do_again : Addr} {od_Record_do_again an_Record_do_again : Option Addr} {sl_Record_do_again : Array (Option Value)} {oc_Record_do_again kV_Record_do_again dc_Record_do_again pm_Record_do_again cd_Record_do_again ct_Record_do_again : Value}
    {f_su_start : Addr} {od_su_start an_su_start : Option Addr} {sl_su_start : Array (Option Value)} {oc_su_start kV_su_start dc_su_start pm_su_start cd_su_start ct_su_start : Value}
    {f_su_sign : Addr} {od_su_sign an_su_sign : Option Addr} {sl_su_sign : Array (Option Value)} {oc_su_sign kV_su_sign dc_su_sign pm_su_sign cd_su_sign ct_su_sign : Value}
    {f_su_leave : Addr} {od_su_leave an_su_leave : Option Addr} {sl_su_leave : Array (Option Value)} {oc_su_leave kV_su_leave dc_su_leave pm_su_leave cd_su_leave ct_su_leave : Value}
    {f_su_owe : Addr} {od_su_owe an_su_owe : Option Addr} {sl_su_owe : Array (Option Value)} {oc_su_owe kV_su_owe dc_su_owe pm_su_owe cd_su_owe ct_su_owe : Value}
    {f_su_pay : Addr} {od_su_pay an_su_pay : Option Addr} {sl_su_pay : Array (Option Value)} {oc_su_pay kV_su_pay dc_su_pay pm_su_pay cd_su_pay ct_su_pay : Value}
    {f_su_part : Addr} {od_su_part an_su_part : Option Addr} {sl_su_part : Array (Option Value)} {oc_su_part kV_su_part dc_su_part pm_su_part cd_su_part ct_su_part : Value}
    {f_su_join : Addr} {od_su_join an_su_join : Option Addr} {sl_su_join : Array (Option Value)} {oc_su_join kV_su_join dc_su_join pm_su_join cd_su_join ct_su_join : Value}
    {f_su_follow : Addr} {od_su_follow an_su_follow : Option Addr} {sl_su_follow : Array (Option Value)} {oc_su_follow kV_su_follow dc_su_follow pm_su_follow cd_su_follow ct_su_follow : Value}
    {f_one_more : Addr} {od_one_more an_one_more : Option Addr} {sl_one_more : Array (Option Value)} {oc_one_more kV_one_more dc_one_more pm_one_more cd_one_more ct_one_more : Value}
    {f_su_from : Addr} {od_su_from an_su_from : Option Addr} {sl_su_from : Array (Option Value)} {oc_su_from kV_su_from dc_su_from pm_su_from cd_su_from ct_su_from : Value}
    {f_su_line : Addr} {od_su_line an_su_line : Option Addr} {sl_su_line : Array (Option Value)} {oc_su_line kV_su_line dc_su_line pm_su_line cd_su_line ct_su_line : Value}
    {f_su_heirs : Addr} {od_su_heirs an_su_heirs : Option Addr} {sl_su_heirs : Array (Option Value)} {oc_su_heirs kV_su_heirs dc_su_heirs pm_su_heirs cd_su_heirs ct_su_heirs : Value}
    {f_su_kin : Addr} {od_su_kin an_su_kin : Option Addr} {sl_su_kin : Array (Option Value)} {oc_su_kin kV_su_kin dc_su_kin pm_su_kin cd_su_kin ct_su_kin : Value}
    {f_su_treaties : Addr} {od_su_treaties an_su_treaties : Option Addr} {sl_su_treaties : Array (Option Value)} {oc_su_treaties kV_su_treaties dc_su_treaties pm_su_treaties cd_su_treaties ct_su_treaties : Value}
    {f_su_bound : Addr} {od_su_bound an_su_bound : Option Addr} {sl_su_bound : Array (Option Value)} {oc_su_bound kV_su_bound dc_su_bound pm_su_bound cd_su_bound ct_su_bound : Value}
    {f_su_common : Addr} {od_su_common an_su_common : Option Addr} {sl_su_common : Array (Option Value)} {oc_su_common kV_su_common dc_su_common pm_su_common cd_su_common ct_su_common : Value}
    {f_su_debt : Addr} {od_su_debt an_su_debt : Option Addr} {sl_su_debt : Array (Option Value)} {oc_su_debt kV_su_debt dc_su_debt pm_su_debt cd_su_debt ct_su_debt : Value}
    {f_su_total : Addr} {od_su_total an_su_total : Option Addr} {sl_su_total : Array (Option Value)} {oc_su_total kV_su_total dc_su_total pm_su_total cd_su_total ct_su_total : Value}
    {f_su_whole : Addr} {od_su_whole an_su_whole : Option Addr} {sl_su_whole : Array (Option Value)} {oc_su_whole kV_su_whole dc_su_whole pm_su_whole cd_su_whole ct_su_whole : Value}
    {f_su_could : Addr} {od_su_could an_su_could : Option Addr} {sl_su_could : Array (Option Value)} {oc_su_could kV_su_could dc_su_could pm_su_could cd_su_could ct_su_could : Value}
    {f_su_would : Addr} {od_su_would an_su_would : Option Addr} {sl_su_would : Array (Option Value)} {oc_su_would kV_su_would dc_su_would pm_su_would cd_su_would ct_su_would : Value}
    {f_su_state : Addr} {od_su_state an_su_state : Option Addr} {sl_su_state : Array (Option Value)} {oc_su_state kV_su_state dc_su_state pm_su_state cd_su_state ct_su_state : Value}
    {f_su_back : Addr} {od_su_back an_su_back : Option Addr} {sl_su_back : Array (Option Value)} {oc_su_back kV_su_back dc_su_back pm_su_back cd_su_back ct_su_back : Value}
    {f_su_again : Addr} {od_su_again an_su_again : Option Addr} {sl_su_again : Array (Option Value)} {oc_su_again kV_su_again dc_su_again pm_su_again cd_su_again ct_su_again : Value}
    {f_make_change : Addr} {od_make_change an_make_change : Option Addr} {sl_make_change : Array (Option Value)} {oc_make_change kV_make_change dc_make_change pm_make_change cd_make_change ct_make_change : Value}
    {f_answer_change : Addr} {od_answer_change an_answer_change : Option Addr} {sl_answer_change : Array (Option Value)} {oc_answer_change kV_answer_change dc_answer_change pm_answer_change cd_answer_change ct_answer_change : Value}
    {f_answer_of_treaties_and_debts : Addr} {od_answer_of_treaties_and_debts an_answer_of_treaties_and_debts : Option Addr} {sl_answer_of_treaties_and_debts : Array (Option Value)} {oc_answer_of_treaties_and_debts kV_answer_of_treaties_and_debts dc_answer_of_treaties_and_debts pm_answer_of_treaties_and_debts cd_answer_of_treaties_and_debts ct_answer_of_treaties_and_debts : Value}
    {f_answer_of_descent : Addr} {od_answer_of_descent an_answer_of_descent : Option Addr} {sl_answer_of_descent : Array (Option Value)} {oc_answer_of_descent kV_answer_of_descent dc_answer_of_descent pm_answer_of_descent cd_answer_of_descent ct_answer_of_descent : Value}
    {f_answer_the_rest : Addr} {od_answer_the_rest an_answer_the_rest : Option Addr} {sl_answer_the_rest : Array (Option Value)} {oc_answer_the_rest kV_answer_the_rest dc_answer_the_rest pm_answer_the_rest cd_answer_the_rest ct_answer_the_rest : Value}
    {f_answer_call : Addr} {od_answer_call an_answer_call : Option Addr} {sl_answer_call : Array (Option Value)} {oc_answer_call kV_answer_call dc_answer_call pm_answer_call cd_answer_call ct_answer_call : Value}
    {f_answers : Addr} {od_answers an_answers : Option Addr} {sl_answers : Array (Option Value)} {oc_answers kV_answers dc_answers pm_answers cd_answers ct_answers : Value}
    {t_SIZES : Addr} {is_SIZES : Array Value} {z_SIZES : Nat}
    {k_MOST_AT_START : Tok}
    {k_MOST_TREATIES : Tok}
    {k_MOST_UNITS : Tok}
    {k_MOST_OWED : Tok}
    {k_MOST_PARTS : Tok}
    {k_MOST_STATES : Tok}
    {k_MOST_TAKEN_BACK : Tok}
    {k_THERE_IS_NONE : Tok}
    {k_NOT_SO : Tok}
    {k_OWES_LESS : Tok}
    {k_BOUND_ALREADY : Tok}
    {k_WRONG_NUMBER : Tok}
    {k_NO_MORE_STATES : Tok}
    {k_TOO_MUCH_OWED : Tok}
    {k_LAST_CHANGE : Tok}
    {k_LAST_OF_TREATIES_AND_DEBTS : Tok}
    {k_LAST_OF_DESCENT : Tok}
    (hC_State : PySem.W.nsIn K mainGlobals "State" = some (some (.ref c_State)))
    (hC_Record : PySem.W.nsIn K mainGlobals "Record" = some (some (.ref c_Record)))
    (a_wrong_start : PySem.W.nsIn K mainGlobals "wrong_start" = some (some (.ref f_wrong_start)))
    (l_wrong_start : K.lookup f_wrong_start = some ⟨oc_wrong_start, od_wrong_start, .func (PySem.W.fnOf "wrong_start" "wrong_start" (defArgs s_wrong_start) (defBody s_wrong_start) (defScope s_wrong_start) .none kV_wrong_start dc_wrong_start pm_wrong_start an_wrong_start cd_wrong_start ct_wrong_start), sl_wrong_start⟩)
    (c_wrong_start_ : PySem.W.codeIn K cd_wrong_start "wrong_start" = true)
    (k_wrong_start : PySem.W.keepIn K (.ref f_wrong_start) = true)
    (a_wrong_units : PySem.W.nsIn K mainGlobals "wrong_units" = some (some (.ref f_wrong_units)))
    (l_wrong_units : K.lookup f_wrong_units = some ⟨oc_wrong_units, od_wrong_units, .func (PySem.W.fnOf "wrong_units" "wrong_units" (defArgs s_wrong_units) (defBody s_wrong_units) (defScope s_wrong_units) .none kV_wrong_units dc_wrong_units pm_wrong_units an_wrong_units cd_wrong_units ct_wrong_units), sl_wrong_units⟩)
    (c_wrong_units_ : PySem.W.codeIn K cd_wrong_units "wrong_units" = true)
    (k_wrong_units : PySem.W.keepIn K (.ref f_wrong_units) = true)
    (a_wrong_mode : PySem.W.nsIn K mainGlobals "wrong_mode" = some (some (.ref f_wrong_mode)))
    (l_wrong_mode : K.lookup f_wrong_mode = some ⟨oc_wrong_mode, od_wrong_mode, .func (PySem.W.fnOf "wrong_mode" "wrong_mode" (defArgs s_wrong_mode) (defBody s_wrong_mode) (defScope s_wrong_mode) .none kV_wrong_mode dc_wrong_mode pm_wrong_mode an_wrong_mode cd_wrong_mode ct_wrong_mode), sl_wrong_mode⟩)
    (c_wrong_mode_ : PySem.W.codeIn K cd_wrong_mode "wrong_mode" = true)
    (k_wrong_mode : PySem.W.keepIn K (.ref f_wrong_mode) = true)
    (a_wrong_parts : PySem.W.nsIn K mainGlobals "wrong_parts" = some (some (.ref f_wrong_parts)))
    (l_wrong_parts : K.lookup f_wrong_parts = some ⟨oc_wrong_parts, od_wrong_parts, .func (PySem.W.fnOf "wrong_parts" "wrong_parts" (defArgs s_wrong_parts) (defBody s_wrong_parts) (defScope s_wrong_parts) .none kV_wrong_parts dc_wrong_parts pm_wrong_parts an_wrong_parts cd_wrong_parts ct_wrong_parts), sl_wrong_parts⟩)
    (c_wrong_parts_ : PySem.W.codeIn K cd_wrong_parts "wrong_parts" = true)
    (k_wrong_parts : PySem.W.keepIn K (.ref f_wrong_parts) = true)
    (a_is_in : PySem.W.nsIn K mainGlobals "is_in" = some (some (.ref f_is_in)))
    (l_is_in : K.lookup f_is_in = some ⟨oc_is_in, od_is_in, .func (PySem.W.fnOf "is_in" "is_in" (defArgs s_is_in) (defBody s_is_in) (defScope s_is_in) .none kV_is_in dc_is_in pm_is_in an_is_in cd_is_in ct_is_in), sl_is_in⟩)
    (c_is_in_ : PySem.W.codeIn K cd_is_in "is_in" = true)
    (k_is_in : PySem.W.keepIn K (.ref f_is_in) = true)
    (a_with_one : PySem.W.nsIn K mainGlobals "with_one" = some (some (.ref f_with_one)))
    (l_with_one : K.lookup f_with_one = some ⟨oc_with_one, od_with_one, .func (PySem.W.fnOf "with_one" "with_one" (defArgs s_with_one) (defBody s_with_one) (defScope s_with_one) .none kV_with_one dc_with_one pm_with_one an_with_one cd_with_one ct_with_one), sl_with_one⟩)
    (c_with_one_ : PySem.W.codeIn K cd_with_one "with_one" = true)
    (k_with_one : PySem.W.keepIn K (.ref f_with_one) = true)
    (a_without_one : PySem.W.nsIn K mainGlobals "without_one" = some (some (.ref f_without_one)))
    (l_without_one : K.lookup f_without_one = some ⟨oc_without_one, od_without_one, .func (PySem.W.fnOf "without_one" "without_one" (defArgs s_without_one) (defBody s_without_one) (defScope s_without_one) .none kV_without_one dc_without_one pm_without_one an_without_one cd_without_one ct_without_one), sl_without_one⟩)
    (c_without_one_ : PySem.W.codeIn K cd_without_one "without_one" = true)
    (k_without_one : PySem.W.keepIn K (.ref f_without_one) = true)
    (a_how_many : PySem.W.nsIn K mainGlobals "how_many" = some (some (.ref f_how_many)))
    (l_how_many : K.lookup f_how_many = some ⟨oc_how_many, od_how_many, .func (PySem.W.fnOf "how_many" "how_many" (defArgs s_how_many) (defBody s_how_many) (defScope s_how_many) .none kV_how_many dc_how_many pm_how_many an_how_many cd_how_many ct_how_many), sl_how_many⟩)
    (c_how_many_ : PySem.W.codeIn K cd_how_many "how_many" = true)
    (k_how_many : PySem.W.keepIn K (.ref f_how_many) = true)
    (a_kept_share : PySem.W.nsIn K mainGlobals "kept_share" = some (some (.ref f_kept_share)))
    (l_kept_share : K.lookup f_kept_share = some ⟨oc_kept_share, od_kept_share, .func (PySem.W.fnOf "kept_share" "kept_share" (defArgs s_kept_share) (defBody s_kept_share) (defScope s_kept_share) .none kV_kept_share dc_kept_share pm_kept_share an_kept_share cd_kept_share ct_kept_share), sl_kept_share⟩)
    (c_kept_share_ : PySem.W.codeIn K cd_kept_share "kept_share" = true)
    (k_kept_share : PySem.W.keepIn K (.ref f_kept_share) = true)
    (a_State_init : PySem.W.findIn K (.ref c_State) "__init__" = some (some (.ref f_State_init)))
    (i_State_init : PySem.W.isFn K (.ref f_State_init) = true)
    (l_State_init : K.lookup f_State_init = some ⟨oc_State_init, od_State_init, .func (PySem.W.fnOf "__init__" "State.__init__" (defArgs s_State_init) (defBody s_State_init) (defScope s_State_init) .none kV_State_init dc_State_init pm_State_init an_State_init cd_State_init ct_State_init), sl_State_init⟩)
    (c_State_init_ : PySem.W.codeIn K cd_State_init "State.__init__" = true)
    (k_State_init : PySem.W.keepIn K (.ref f_State_init) = true)
    (a_State_is_there : PySem.W.findIn K (.ref c_State) "is_there" = some (some (.ref f_State_is_there)))
    (i_State_is_there : PySem.W.isFn K (.ref f_State_is_there) = true)
    (l_State_is_there : K.lookup f_State_is_there = some ⟨oc_State_is_there, od_State_is_there, .func (PySem.W.fnOf "is_there" "State.is_there" (defArgs s_State_is_there) (defBody s_State_is_there) (defScope s_State_is_there) .none kV_State_is_there dc_State_is_there pm_State_is_there an_State_is_there cd_State_is_there ct_State_is_there), sl_State_is_there⟩)
    (c_State_is_there_ : PySem.W.codeIn K cd_State_is_there "State.is_there" = true)
    (k_State_is_there : PySem.W.keepIn K (.ref f_State_is_there) = true)
    (a_State_vanish_into : PySem.W.findIn K (.ref c_State) "vanish_into" = some (some (.ref f_State_vanish_into)))
    (i_State_vanish_into : PySem.W.isFn K (.ref f_State_vanish_into) = true)
    (l_State_vanish_into : K.lookup f_State_vanish_into = some ⟨oc_State_vanish_into, od_State_vanish_into, .func (PySem.W.fnOf "vanish_into" "State.vanish_into" (defArgs s_State_vanish_into) (defBody s_State_vanish_into) (defScope s_State_vanish_into) .none kV_State_vanish_into dc_State_vanish_into pm_State_vanish_into an_State_vanish_into cd_State_vanish_into ct_State_vanish_into), sl_State_vanish_into⟩)
    (c_State_vanish_into_ : PySem.W.codeIn K cd_State_vanish_into "State.vanish_into" = true)
    (k_State_vanish_into : PySem.W.keepIn K (.ref f_State_vanish_into) = true)
    (a_State_copied : PySem.W.findIn K (.ref c_State) "copied" = some (some (.ref f_State_copied)))
    (i_State_copied : PySem.W.isFn K (.ref f_State_copied) = true)
    (l_State_copied : K.lookup f_State_copied = some ⟨oc_State_copied, od_State_copied, .func (PySem.W.fnOf "copied" "State.copied" (defArgs s_State_copied) (defBody s_State_copied) (defScope s_State_copied) .none kV_State_copied dc_State_copied pm_State_copied an_State_copied cd_State_copied ct_State_copied), sl_State_copied⟩)
    (c_State_copied_ : PySem.W.codeIn K cd_State_copied "State.copied" = true)
    (k_State_copied : PySem.W.keepIn K (.ref f_State_copied) = true)
    (a_Record_init : PySem.W.findIn K (.ref c_Record) "__init__" = some (some (.ref f_Record_init)))
    (i_Record_init : PySem.W.isFn K (.ref f_Record_init) = true)
    (l_Record_init : K.lookup f_Record_init = some ⟨oc_Record_init, od_Record_init, .func (PySem.W.fnOf "__init__" "Record.__init__" (defArgs s_Record_init) (defBody s_Record_init) (defScope s_Record_init) .none kV_Record_init dc_Record_init pm_Record_init an_Record_init cd_Record_init ct_Record_init), sl_Record_init⟩)
    (c_Record_init_ : PySem.W.codeIn K cd_Record_init "Record.__init__" = true)
    (k_Record_init : PySem.W.keepIn K (.ref f_Record_init) = true)
    (a_Record_begin : PySem.W.findIn K (.ref c_Record) "begin" = some (some (.ref f_Record_begin)))
    (i_Record_begin : PySem.W.isFn K (.ref f_Record_begin) = true)
    (l_Record_begin : K.lookup f_Record_begin = some ⟨oc_Record_begin, od_Record_begin, .func (PySem.W.fnOf "begin" "Record.begin" (defArgs s_Record_begin) (defBody s_Record_begin) (defScope s_Record_begin) .none kV_Record_begin dc_Record_begin pm_Record_begin an_Record_begin cd_Record_begin ct_Record_begin), sl_Record_begin⟩)
    (c_Record_begin_ : PySem.W.codeIn K cd_Record_begin "Record.begin" = true)
    (k_Record_begin : PySem.W.keepIn K (.ref f_Record_begin) = true)
    (a_Record_has_state : PySem.W.findIn K (.ref c_Record) "has_state" = some (some (.ref f_Record_has_state)))
    (i_Record_has_state : PySem.W.isFn K (.ref f_Record_has_state) = true)
    (l_Record_has_state : K.lookup f_Record_has_state = some ⟨oc_Record_has_state, od_Record_has_state, .func (PySem.W.fnOf "has_state" "Record.has_state" (defArgs s_Record_has_state) (defBody s_Record_has_state) (defScope s_Record_has_state) .none kV_Record_has_state dc_Record_has_state pm_Record_has_state an_Record_has_state cd_Record_has_state ct_Record_has_state), sl_Record_has_state⟩)
    (c_Record_has_state_ : PySem.W.codeIn K cd_Record_has_state "Record.has_state" = true)
    (k_Record_has_state : PySem.W.keepIn K (.ref f_Record_has_state) = true)
    (a_Record_had_state : PySem.W.findIn K (.ref c_Record) "had_state" = some (some (.ref f_Record_had_state)))
    (i_Record_had_state : PySem.W.isFn K (.ref f_Record_had_state) = true)
    (l_Record_had_state : K.lookup f_Record_had_state = some ⟨oc_Record_had_state, od_Record_had_state, .func (PySem.W.fnOf "had_state" "Record.had_state" (defArgs s_Record_had_state) (defBody s_Record_had_state) (defScope s_Record_had_state) .none kV_Record_had_state dc_Record_had_state pm_Record_had_state an_Record_had_state cd_Record_had_state ct_Record_had_state), sl_Record_had_state⟩)
    (c_Record_had_state_ : PySem.W.codeIn K cd_Record_had_state "Record.had_state" = true)
    (k_Record_had_state : PySem.W.keepIn K (.ref f_Record_had_state) = true)
    (a_Record_has_treaty : PySem.W.findIn K (.ref c_Record) "has_treaty" = some (some (.ref f_Record_has_treaty)))
    (i_Record_has_treaty : PySem.W.isFn K (.ref f_Record_has_treaty) = true)
    (l_Record_has_treaty : K.lookup f_Record_has_treaty = some ⟨oc_Record_has_treaty, od_Record_has_treaty, .func (PySem.W.fnOf "has_treaty" "Record.has_treaty" (defArgs s_Record_has_treaty) (defBody s_Record_has_treaty) (defScope s_Record_has_treaty) .none kV_Record_has_treaty dc_Record_has_treaty pm_Record_has_treaty an_Record_has_treaty cd_Record_has_treaty ct_Record_has_treaty), sl_Record_has_treaty⟩)
    (c_Record_has_treaty_ : PySem.W.codeIn K cd_Record_has_treaty "Record.has_treaty" = true)
    (k_Record_has_treaty : PySem.W.keepIn K (.ref f_Record_has_treaty) = true)
    (a_Record_is_full : PySem.W.findIn K (.ref c_Record) "is_full" = some (some (.ref f_Record_is_full)))
    (i_Record_is_full : PySem.W.isFn K (.ref f_Record_is_full) = true)
    (l_Record_is_full : K.lookup f_Record_is_full = some ⟨oc_Record_is_full, od_Record_is_full, .func (PySem.W.fnOf "is_full" "Record.is_full" (defArgs s_Record_is_full) (defBody s_Record_is_full) (defScope s_Record_is_full) .none kV_Record_is_full dc_Record_is_full pm_Record_is_full an_Record_is_full cd_Record_is_full ct_Record_is_full), sl_Record_is_full⟩)
    (c_Record_is_full_ : PySem.W.codeIn K cd_Record_is_full "Record.is_full" = true)
    (k_Record_is_full : PySem.W.keepIn K (.ref f_Record_is_full) = true)
    (a_Record_who_is_there : PySem.W.findIn K (.ref c_Record) "who_is_there" = some (some (.ref f_Record_who_is_there)))
    (i_Record_who_is_there : PySem.W.isFn K (.ref f_Record_who_is_there) = true)
    (l_Record_who_is_there : K.lookup f_Record_who_is_there = some ⟨oc_Record_who_is_there, od_Record_who_is_there, .func (PySem.W.fnOf "who_is_there" "Record.who_is_there" (defArgs s_Record_who_is_there) (defBody s_Record_who_is_there) (defScope s_Record_who_is_there) .none kV_Record_who_is_there dc_Record_who_is_there pm_Record_who_is_there an_Record_who_is_there cd_Record_who_is_there ct_Record_who_is_there), sl_Record_who_is_there⟩)
    (c_Record_who_is_there_ : PySem.W.codeIn K cd_Record_who_is_there "Record.who_is_there" = true)
    (k_Record_who_is_there : PySem.W.keepIn K (.ref f_Record_who_is_there) = true)
    (a_Record_total_debt : PySem.W.findIn K (.ref c_Record) "total_debt" = some (some (.ref f_Record_total_debt)))
    (i_Record_total_debt : PySem.W.isFn K (.ref f_Record_total_debt) = true)
    (l_Record_total_debt : K.lookup f_Record_total_debt = some ⟨oc_Record_total_debt, od_Record_total_debt, .func (PySem.W.fnOf "total_debt" "Record.total_debt" (defArgs s_Record_total_debt) (defBody s_Record_total_debt) (defScope s_Record_total_debt) .none kV_Record_total_debt dc_Record_total_debt pm_Record_total_debt an_Record_total_debt cd_Record_total_debt ct_Record_total_debt), sl_Record_total_debt⟩)
    (c_Record_total_debt_ : PySem.W.codeIn K cd_Record_total_debt "Record.total_debt" = true)
    (k_Record_total_debt : PySem.W.keepIn K (.ref f_Record_total_debt) = true)
    (a_Record_who_is_bound : PySem.W.findIn K (.ref c_Record) "who_is_bound" = some (some (.ref f_Record_who_is_bound)))
    (i_Record_who_is_bound : PySem.W.isFn K (.ref f_Record_who_is_bound) = true)
    (l_Record_who_is_bound : K.lookup f_Record_who_is_bound = some ⟨oc_Record_who_is_bound, od_Record_who_is_bound, .func (PySem.W.fnOf "who_is_bound" "Record.who_is_bound" (defArgs s_Record_who_is_bound) (defBody s_Record_who_is_bound) (defScope s_Record_who_is_bound) .none kV_Record_who_is_bound dc_Record_who_is_bound pm_Record_who_is_bound an_Record_who_is_bound cd_Record_who_is_bound ct_Record_who_is_bound), sl_Record_who_is_bound⟩)
    (c_Record_who_is_bound_ : PySem.W.codeIn K cd_Record_who_is_bound "Record.who_is_bound" = true)
    (k_Record_who_is_bound : PySem.W.keepIn K (.ref f_Record_who_is_bound) = true)
    (a_Record_line : PySem.W.findIn K (.ref c_Record) "line" = some (some (.ref f_Record_line)))
    (i_Record_line : PySem.W.isFn K (.ref f_Record_line) = true)
    (l_Record_line : K.lookup f_Record_line = some ⟨oc_Record_line, od_Record_line, .func (PySem.W.fnOf "line" "Record.line" (defArgs s_Record_line) (defBody s_Record_line) (defScope s_Record_line) .none kV_Record_line dc_Record_line pm_Record_line an_Record_line cd_Record_line ct_Record_line), sl_Record_line⟩)
    (c_Record_line_ : PySem.W.codeIn K cd_Record_line "Record.line" = true)
    (k_Record_line : PySem.W.keepIn K (.ref f_Record_line) = true)
    (a_Record_ends_up_in : PySem.W.findIn K (.ref c_Record) "ends_up_in" = some (some (.ref f_Record_ends_up_in)))
    (i_Record_ends_up_in : PySem.W.isFn K (.ref f_Record_ends_up_in) = true)
    (l_Record_ends_up_in : K.lookup f_Record_ends_up_in = some ⟨oc_Record_ends_up_in, od_Record_ends_up_in, .func (PySem.W.fnOf "ends_up_in" "Record.ends_up_in" (defArgs s_Record_ends_up_in) (defBody s_Record_ends_up_in) (defScope s_Record_ends_up_in) .none kV_Record_ends_up_in dc_Record_ends_up_in pm_Record_ends_up_in an_Record_ends_up_in cd_Record_ends_up_in ct_Record_ends_up_in), sl_Record_ends_up_in⟩)
    (c_Record_ends_up_in_ : PySem.W.codeIn K cd_Record_ends_up_in "Record.ends_up_in" = true)
    (k_Record_ends_up_in : PySem.W.keepIn K (.ref f_Record_ends_up_in) = true)
    (a_Record_heirs : PySem.W.findIn K (.ref c_Record) "heirs" = some (some (.ref f_Record_heirs)))
    (i_Record_heirs : PySem.W.isFn K (.ref f_Record_heirs) = true)
    (l_Record_heirs : K.lookup f_Record_heirs = some ⟨oc_Record_heirs, od_Record_heirs, .func (PySem.W.fnOf "heirs" "Record.heirs" (defArgs s_Record_heirs) (defBody s_Record_heirs) (defScope s_Record_heirs) .none kV_Record_heirs dc_Record_heirs pm_Record_heirs an_Record_heirs cd_Record_heirs ct_Record_heirs), sl_Record_heirs⟩)
    (c_Record_heirs_ : PySem.W.codeIn K cd_Record_heirs "Record.heirs" = true)
    (k_Record_heirs : PySem.W.keepIn K (.ref f_Record_heirs) = true)
    (a_Record_part : PySem.W.findIn K (.ref c_Record) "part" = some (some (.ref f_Record_part)))
    (i_Record_part : PySem.W.isFn K (.ref f_Record_part) = true)
    (l_Record_part : K.lookup f_Record_part = some ⟨oc_Record_part, od_Record_part, .func (PySem.W.fnOf "part" "Record.part" (defArgs s_Record_part) (defBody s_Record_part) (defScope s_Record_part) .none kV_Record_part dc_Record_part pm_Record_part an_Record_part cd_Record_part ct_Record_part), sl_Record_part⟩)
    (c_Record_part_ : PySem.W.codeIn K cd_Record_part "Record.part" = true)
    (k_Record_part : PySem.W.keepIn K (.ref f_Record_part) = true)
    (a_Record_take_up : PySem.W.findIn K (.ref c_Record) "take_up" = some (some (.ref f_Record_take_up)))
    (i_Record_take_up : PySem.W.isFn K (.ref f_Record_take_up) = true)
    (l_Record_take_up : K.lookup f_Record_take_up = some ⟨oc_Record_take_up, od_Record_take_up, .func (PySem.W.fnOf "take_up" "Record.take_up" (defArgs s_Record_take_up) (defBody s_Record_take_up) (defScope s_Record_take_up) .none kV_Record_take_up dc_Record_take_up pm_Record_take_up an_Record_take_up cd_Record_take_up ct_Record_take_up), sl_Record_take_up⟩)
    (c_Record_take_up_ : PySem.W.codeIn K cd_Record_take_up "Record.take_up" = true)
    (k_Record_take_up : PySem.W.keepIn K (.ref f_Record_take_up) = true)
    (a_Record_copied_states : PySem.W.findIn K (.ref c_Record) "copied_states" = some (some (.ref f_Record_copied_states)))
    (i_Record_copied_states : PySem.W.isFn K (.ref f_Record_copied_states) = true)
    (l_Record_copied_states : K.lookup f_Record_copied_states = some ⟨oc_Record_copied_states, od_Record_copied_states, .func (PySem.W.fnOf "copied_states" "Record.copied_states" (defArgs s_Record_copied_states) (defBody s_Record_copied_states) (defScope s_Record_copied_states) .none kV_Record_copied_states dc_Record_copied_states pm_Record_copied_states an_Record_copied_states cd_Record_copied_states ct_Record_copied_states), sl_Record_copied_states⟩)
    (c_Record_copied_states_ : PySem.W.codeIn K cd_Record_copied_states "Record.copied_states" = true)
    (k_Record_copied_states : PySem.W.keepIn K (.ref f_Record_copied_states) = true)
    (a_Record_keep_change : PySem.W.findIn K (.ref c_Record) "keep_change" = some (some (.ref f_Record_keep_change)))
    (i_Record_keep_change : PySem.W.isFn K (.ref f_Record_keep_change) = true)
    (l_Record_keep_change : K.lookup f_Record_keep_change = some ⟨oc_Record_keep_change, od_Record_keep_change, .func (PySem.W.fnOf "keep_change" "Record.keep_change" (defArgs s_Record_keep_change) (defBody s_Record_keep_change) (defScope s_Record_keep_change) .none kV_Record_keep_change dc_Record_keep_change pm_Record_keep_change an_Record_keep_change cd_Record_keep_change ct_Record_keep_change), sl_Record_keep_change⟩)
    (c_Record_keep_change_ : PySem.W.codeIn K cd_Record_keep_change "Record.keep_change" = true)
    (k_Record_keep_change : PySem.W.keepIn K (.ref f_Record_keep_change) = true)
    (a_Record_take_back : PySem.W.findIn K (.ref c_Record) "take_back" = some (some (.ref f_Record_take_back)))
    (i_Record_take_back : PySem.W.isFn K (.ref f_Record_take_back) = true)
    (l_Record_take_back : K.lookup f_Record_take_back = some ⟨oc_Record_take_back, od_Record_take_back, .func (PySem.W.fnOf "take_back" "Record.take_back" (defArgs s_Record_take_back) (defBody s_Record_take_back) (defScope s_Record_take_back) .none kV_Record_take_back dc_Record_take_back pm_Record_take_back an_Record_take_back cd_Record_take_back ct_Record_take_back), sl_Record_take_back⟩)
    (c_Record_take_back_ : PySem.W.codeIn K cd_Record_take_back "Record.take_back" = true)
    (k_Record_take_back : PySem.W.keepIn K (.ref f_Record_take_back) = true)
    (a_Record_do_again : PySem.W.findIn K (.ref c_Record) "do_again" = some (some (.ref f_Record_do_again)))
    (i_Record_do_again : PySem.W.isFn K (.ref f_Record_do_again) = true)
    (l_Record_do_again : K.lookup f_Record_do_again = some ⟨oc_Record_do_again, od_Record_do_again, .func (PySem.W.fnOf "do_again" "Record.do_again" (defArgs s_Record_do_again) (defBody s_Record_do_again) (defScope s_Record_do_again) .none kV_Record_do_again dc_Record_do_again pm_Record_do_again an_Record_do_again cd_Record_do_again ct_Record_do_again), sl_Record_do_again⟩)
    (c_Record_do_again_ : PySem.W.codeIn K cd_Record_do_again "Record.do_again" = true)
    (k_Record_do_again : PySem.W.keepIn K (.ref f_Record_do_again) = true)
    (a_su_start : PySem.W.nsIn K mainGlobals "su_start" = some (some (.ref f_su_start)))
    (l_su_start : K.lookup f_su_start = some ⟨oc_su_start, od_su_start, .func (PySem.W.fnOf "su_start" "su_start" (defArgs s_su_start) (defBody s_su_start) (defScope s_su_start) .none kV_su_start dc_su_start pm_su_start an_su_start cd_su_start ct_su_start), sl_su_start⟩)
    (c_su_start_ : PySem.W.codeIn K cd_su_start "su_start" = true)
    (k_su_start : PySem.W.keepIn K (.ref f_su_start) = true)
    (a_su_sign : PySem.W.nsIn K mainGlobals "su_sign" = some (some (.ref f_su_sign)))
    (l_su_sign : K.lookup f_su_sign = some ⟨oc_su_sign, od_su_sign, .func (PySem.W.fnOf "su_sign" "su_sign" (defArgs s_su_sign) (defBody s_su_sign) (defScope s_su_sign) .none kV_su_sign dc_su_sign pm_su_sign an_su_sign cd_su_sign ct_su_sign), sl_su_sign⟩)
    (c_su_sign_ : PySem.W.codeIn K cd_su_sign "su_sign" = true)
    (k_su_sign : PySem.W.keepIn K (.ref f_su_sign) = true)
    (a_su_leave : PySem.W.nsIn K mainGlobals "su_leave" = some (some (.ref f_su_leave)))
    (l_su_leave : K.lookup f_su_leave = some ⟨oc_su_leave, od_su_leave, .func (PySem.W.fnOf "su_leave" "su_leave" (defArgs s_su_leave) (defBody s_su_leave) (defScope s_su_leave) .none kV_su_leave dc_su_leave pm_su_leave an_su_leave cd_su_leave ct_su_leave), sl_su_leave⟩)
    (c_su_leave_ : PySem.W.codeIn K cd_su_leave "su_leave" = true)
    (k_su_leave : PySem.W.keepIn K (.ref f_su_leave) = true)
    (a_su_owe : PySem.W.nsIn K mainGlobals "su_owe" = some (some (.ref f_su_owe)))
    (l_su_owe : K.lookup f_su_owe = some ⟨oc_su_owe, od_su_owe, .func (PySem.W.fnOf "su_owe" "su_owe" (defArgs s_su_owe) (defBody s_su_owe) (defScope s_su_owe) .none kV_su_owe dc_su_owe pm_su_owe an_su_owe cd_su_owe ct_su_owe), sl_su_owe⟩)
    (c_su_owe_ : PySem.W.codeIn K cd_su_owe "su_owe" = true)
    (k_su_owe : PySem.W.keepIn K (.ref f_su_owe) = true)
    (a_su_pay : PySem.W.nsIn K mainGlobals "su_pay" = some (some (.ref f_su_pay)))
    (l_su_pay : K.lookup f_su_pay = some ⟨oc_su_pay, od_su_pay, .func (PySem.W.fnOf "su_pay" "su_pay" (defArgs s_su_pay) (defBody s_su_pay) (defScope s_su_pay) .none kV_su_pay dc_su_pay pm_su_pay an_su_pay cd_su_pay ct_su_pay), sl_su_pay⟩)
    (c_su_pay_ : PySem.W.codeIn K cd_su_pay "su_pay" = true)
    (k_su_pay : PySem.W.keepIn K (.ref f_su_pay) = true)
    (a_su_part : PySem.W.nsIn K mainGlobals "su_part" = some (some (.ref f_su_part)))
    (l_su_part : K.lookup f_su_part = some ⟨oc_su_part, od_su_part, .func (PySem.W.fnOf "su_part" "su_part" (defArgs s_su_part) (defBody s_su_part) (defScope s_su_part) .none kV_su_part dc_su_part pm_su_part an_su_part cd_su_part ct_su_part), sl_su_part⟩)
    (c_su_part_ : PySem.W.codeIn K cd_su_part "su_part" = true)
    (k_su_part : PySem.W.keepIn K (.ref f_su_part) = true)
    (a_su_join : PySem.W.nsIn K mainGlobals "su_join" = some (some (.ref f_su_join)))
    (l_su_join : K.lookup f_su_join = some ⟨oc_su_join, od_su_join, .func (PySem.W.fnOf "su_join" "su_join" (defArgs s_su_join) (defBody s_su_join) (defScope s_su_join) .none kV_su_join dc_su_join pm_su_join an_su_join cd_su_join ct_su_join), sl_su_join⟩)
    (c_su_join_ : PySem.W.codeIn K cd_su_join "su_join" = true)
    (k_su_join : PySem.W.keepIn K (.ref f_su_join) = true)
    (a_su_follow : PySem.W.nsIn K mainGlobals "su_follow" = some (some (.ref f_su_follow)))
    (l_su_follow : K.lookup f_su_follow = some ⟨oc_su_follow, od_su_follow, .func (PySem.W.fnOf "su_follow" "su_follow" (defArgs s_su_follow) (defBody s_su_follow) (defScope s_su_follow) .none kV_su_follow dc_su_follow pm_su_follow an_su_follow cd_su_follow ct_su_follow), sl_su_follow⟩)
    (c_su_follow_ : PySem.W.codeIn K cd_su_follow "su_follow" = true)
    (k_su_follow : PySem.W.keepIn K (.ref f_su_follow) = true)
    (a_one_more : PySem.W.nsIn K mainGlobals "one_more" = some (some (.ref f_one_more)))
    (l_one_more : K.lookup f_one_more = some ⟨oc_one_more, od_one_more, .func (PySem.W.fnOf "one_more" "one_more" (defArgs s_one_more) (defBody s_one_more) (defScope s_one_more) .none kV_one_more dc_one_more pm_one_more an_one_more cd_one_more ct_one_more), sl_one_more⟩)
    (c_one_more_ : PySem.W.codeIn K cd_one_more "one_more" = true)
    (k_one_more : PySem.W.keepIn K (.ref f_one_more) = true)
    (a_su_from : PySem.W.nsIn K mainGlobals "su_from" = some (some (.ref f_su_from)))
    (l_su_from : K.lookup f_su_from = some ⟨oc_su_from, od_su_from, .func (PySem.W.fnOf "su_from" "su_from" (defArgs s_su_from) (defBody s_su_from) (defScope s_su_from) .none kV_su_from dc_su_from pm_su_from an_su_from cd_su_from ct_su_from), sl_su_from⟩)
    (c_su_from_ : PySem.W.codeIn K cd_su_from "su_from" = true)
    (k_su_from : PySem.W.keepIn K (.ref f_su_from) = true)
    (a_su_line : PySem.W.nsIn K mainGlobals "su_line" = some (some (.ref f_su_line)))
    (l_su_line : K.lookup f_su_line = some ⟨oc_su_line, od_su_line, .func (PySem.W.fnOf "su_line" "su_line" (defArgs s_su_line) (defBody s_su_line) (defScope s_su_line) .none kV_su_line dc_su_line pm_su_line an_su_line cd_su_line ct_su_line), sl_su_line⟩)
    (c_su_line_ : PySem.W.codeIn K cd_su_line "su_line" = true)
    (k_su_line : PySem.W.keepIn K (.ref f_su_line) = true)
    (a_su_heirs : PySem.W.nsIn K mainGlobals "su_heirs" = some (some (.ref f_su_heirs)))
    (l_su_heirs : K.lookup f_su_heirs = some ⟨oc_su_heirs, od_su_heirs, .func (PySem.W.fnOf "su_heirs" "su_heirs" (defArgs s_su_heirs) (defBody s_su_heirs) (defScope s_su_heirs) .none kV_su_heirs dc_su_heirs pm_su_heirs an_su_heirs cd_su_heirs ct_su_heirs), sl_su_heirs⟩)
    (c_su_heirs_ : PySem.W.codeIn K cd_su_heirs "su_heirs" = true)
    (k_su_heirs : PySem.W.keepIn K (.ref f_su_heirs) = true)
    (a_su_kin : PySem.W.nsIn K mainGlobals "su_kin" = some (some (.ref f_su_kin)))
    (l_su_kin : K.lookup f_su_kin = some ⟨oc_su_kin, od_su_kin, .func (PySem.W.fnOf "su_kin" "su_kin" (defArgs s_su_kin) (defBody s_su_kin) (defScope s_su_kin) .none kV_su_kin dc_su_kin pm_su_kin an_su_kin cd_su_kin ct_su_kin), sl_su_kin⟩)
    (c_su_kin_ : PySem.W.codeIn K cd_su_kin "su_kin" = true)
    (k_su_kin : PySem.W.keepIn K (.ref f_su_kin) = true)
    (a_su_treaties : PySem.W.nsIn K mainGlobals "su_treaties" = some (some (.ref f_su_treaties)))
    (l_su_treaties : K.lookup f_su_treaties = some ⟨oc_su_treaties, od_su_treaties, .func (PySem.W.fnOf "su_treaties" "su_treaties" (defArgs s_su_treaties) (defBody s_su_treaties) (defScope s_su_treaties) .none kV_su_treaties dc_su_treaties pm_su_treaties an_su_treaties cd_su_treaties ct_su_treaties), sl_su_treaties⟩)
    (c_su_treaties_ : PySem.W.codeIn K cd_su_treaties "su_treaties" = true)
    (k_su_treaties : PySem.W.keepIn K (.ref f_su_treaties) = true)
    (a_su_bound : PySem.W.nsIn K mainGlobals "su_bound" = some (some (.ref f_su_bound)))
    (l_su_bound : K.lookup f_su_bound = some ⟨oc_su_bound, od_su_bound, .func (PySem.W.fnOf "su_bound" "su_bound" (defArgs s_su_bound) (defBody s_su_bound) (defScope s_su_bound) .none kV_su_bound dc_su_bound pm_su_bound an_su_bound cd_su_bound ct_su_bound), sl_su_bound⟩)
    (c_su_bound_ : PySem.W.codeIn K cd_su_bound "su_bound" = true)
    (k_su_bound : PySem.W.keepIn K (.ref f_su_bound) = true)
    (a_su_common : PySem.W.nsIn K mainGlobals "su_common" = some (some (.ref f_su_common)))
    (l_su_common : K.lookup f_su_common = some ⟨oc_su_common, od_su_common, .func (PySem.W.fnOf "su_common" "su_common" (defArgs s_su_common) (defBody s_su_common) (defScope s_su_common) .none kV_su_common dc_su_common pm_su_common an_su_common cd_su_common ct_su_common), sl_su_common⟩)
    (c_su_common_ : PySem.W.codeIn K cd_su_common "su_common" = true)
    (k_su_common : PySem.W.keepIn K (.ref f_su_common) = true)
    (a_su_debt : PySem.W.nsIn K mainGlobals "su_debt" = some (some (.ref f_su_debt)))
    (l_su_debt : K.lookup f_su_debt = some ⟨oc_su_debt, od_su_debt, .func (PySem.W.fnOf "su_debt" "su_debt" (defArgs s_su_debt) (defBody s_su_debt) (defScope s_su_debt) .none kV_su_debt dc_su_debt pm_su_debt an_su_debt cd_su_debt ct_su_debt), sl_su_debt⟩)
    (c_su_debt_ : PySem.W.codeIn K cd_su_debt "su_debt" = true)
    (k_su_debt : PySem.W.keepIn K (.ref f_su_debt) = true)
    (a_su_total : PySem.W.nsIn K mainGlobals "su_total" = some (some (.ref f_su_total)))
    (l_su_total : K.lookup f_su_total = some ⟨oc_su_total, od_su_total, .func (PySem.W.fnOf "su_total" "su_total" (defArgs s_su_total) (defBody s_su_total) (defScope s_su_total) .none kV_su_total dc_su_total pm_su_total an_su_total cd_su_total ct_su_total), sl_su_total⟩)
    (c_su_total_ : PySem.W.codeIn K cd_su_total "su_total" = true)
    (k_su_total : PySem.W.keepIn K (.ref f_su_total) = true)
    (a_su_whole : PySem.W.nsIn K mainGlobals "su_whole" = some (some (.ref f_su_whole)))
    (l_su_whole : K.lookup f_su_whole = some ⟨oc_su_whole, od_su_whole, .func (PySem.W.fnOf "su_whole" "su_whole" (defArgs s_su_whole) (defBody s_su_whole) (defScope s_su_whole) .none kV_su_whole dc_su_whole pm_su_whole an_su_whole cd_su_whole ct_su_whole), sl_su_whole⟩)
    (c_su_whole_ : PySem.W.codeIn K cd_su_whole "su_whole" = true)
    (k_su_whole : PySem.W.keepIn K (.ref f_su_whole) = true)
    (a_su_could : PySem.W.nsIn K mainGlobals "su_could" = some (some (.ref f_su_could)))
    (l_su_could : K.lookup f_su_could = some ⟨oc_su_could, od_su_could, .func (PySem.W.fnOf "su_could" "su_could" (defArgs s_su_could) (defBody s_su_could) (defScope s_su_could) .none kV_su_could dc_su_could pm_su_could an_su_could cd_su_could ct_su_could), sl_su_could⟩)
    (c_su_could_ : PySem.W.codeIn K cd_su_could "su_could" = true)
    (k_su_could : PySem.W.keepIn K (.ref f_su_could) = true)
    (a_su_would : PySem.W.nsIn K mainGlobals "su_would" = some (some (.ref f_su_would)))
    (l_su_would : K.lookup f_su_would = some ⟨oc_su_would, od_su_would, .func (PySem.W.fnOf "su_would" "su_would" (defArgs s_su_would) (defBody s_su_would) (defScope s_su_would) .none kV_su_would dc_su_would pm_su_would an_su_would cd_su_would ct_su_would), sl_su_would⟩)
    (c_su_would_ : PySem.W.codeIn K cd_su_would "su_would" = true)
    (k_su_would : PySem.W.keepIn K (.ref f_su_would) = true)
    (a_su_state : PySem.W.nsIn K mainGlobals "su_state" = some (some (.ref f_su_state)))
    (l_su_state : K.lookup f_su_state = some ⟨oc_su_state, od_su_state, .func (PySem.W.fnOf "su_state" "su_state" (defArgs s_su_state) (defBody s_su_state) (defScope s_su_state) .none kV_su_state dc_su_state pm_su_state an_su_state cd_su_state ct_su_state), sl_su_state⟩)
    (c_su_state_ : PySem.W.codeIn K cd_su_state "su_state" = true)
    (k_su_state : PySem.W.keepIn K (.ref f_su_state) = true)
    (a_su_back : PySem.W.nsIn K mainGlobals "su_back" = some (some (.ref f_su_back)))
    (l_su_back : K.lookup f_su_back = some ⟨oc_su_back, od_su_back, .func (PySem.W.fnOf "su_back" "su_back" (defArgs s_su_back) (defBody s_su_back) (defScope s_su_back) .none kV_su_back dc_su_back pm_su_back an_su_back cd_su_back ct_su_back), sl_su_back⟩)
    (c_su_back_ : PySem.W.codeIn K cd_su_back "su_back" = true)
    (k_su_back : PySem.W.keepIn K (.ref f_su_back) = true)
    (a_su_again : PySem.W.nsIn K mainGlobals "su_again" = some (some (.ref f_su_again)))
    (l_su_again : K.lookup f_su_again = some ⟨oc_su_again, od_su_again, .func (PySem.W.fnOf "su_again" "su_again" (defArgs s_su_again) (defBody s_su_again) (defScope s_su_again) .none kV_su_again dc_su_again pm_su_again an_su_again cd_su_again ct_su_again), sl_su_again⟩)
    (c_su_again_ : PySem.W.codeIn K cd_su_again "su_again" = true)
    (k_su_again : PySem.W.keepIn K (.ref f_su_again) = true)
    (a_make_change : PySem.W.nsIn K mainGlobals "make_change" = some (some (.ref f_make_change)))
    (l_make_change : K.lookup f_make_change = some ⟨oc_make_change, od_make_change, .func (PySem.W.fnOf "make_change" "make_change" (defArgs s_make_change) (defBody s_make_change) (defScope s_make_change) .none kV_make_change dc_make_change pm_make_change an_make_change cd_make_change ct_make_change), sl_make_change⟩)
    (c_make_change_ : PySem.W.codeIn K cd_make_change "make_change" = true)
    (k_make_change : PySem.W.keepIn K (.ref f_make_change) = true)
    (a_answer_change : PySem.W.nsIn K mainGlobals "answer_change" = some (some (.ref f_answer_change)))
    (l_answer_change : K.lookup f_answer_change = some ⟨oc_answer_change, od_answer_change, .func (PySem.W.fnOf "answer_change" "answer_change" (defArgs s_answer_change) (defBody s_answer_change) (defScope s_answer_change) .none kV_answer_change dc_answer_change pm_answer_change an_answer_change cd_answer_change ct_answer_change), sl_answer_change⟩)
    (c_answer_change_ : PySem.W.codeIn K cd_answer_change "answer_change" = true)
    (k_answer_change : PySem.W.keepIn K (.ref f_answer_change) = true)
    (a_answer_of_treaties_and_debts : PySem.W.nsIn K mainGlobals "answer_of_treaties_and_debts" = some (some (.ref f_answer_of_treaties_and_debts)))
    (l_answer_of_treaties_and_debts : K.lookup f_answer_of_treaties_and_debts = some ⟨oc_answer_of_treaties_and_debts, od_answer_of_treaties_and_debts, .func (PySem.W.fnOf "answer_of_treaties_and_debts" "answer_of_treaties_and_debts" (defArgs s_answer_of_treaties_and_debts) (defBody s_answer_of_treaties_and_debts) (defScope s_answer_of_treaties_and_debts) .none kV_answer_of_treaties_and_debts dc_answer_of_treaties_and_debts pm_answer_of_treaties_and_debts an_answer_of_treaties_and_debts cd_answer_of_treaties_and_debts ct_answer_of_treaties_and_debts), sl_answer_of_treaties_and_debts⟩)
    (c_answer_of_treaties_and_debts_ : PySem.W.codeIn K cd_answer_of_treaties_and_debts "answer_of_treaties_and_debts" = true)
    (k_answer_of_treaties_and_debts : PySem.W.keepIn K (.ref f_answer_of_treaties_and_debts) = true)
    (a_answer_of_descent : PySem.W.nsIn K mainGlobals "answer_of_descent" = some (some (.ref f_answer_of_descent)))
    (l_answer_of_descent : K.lookup f_answer_of_descent = some ⟨oc_answer_of_descent, od_answer_of_descent, .func (PySem.W.fnOf "answer_of_descent" "answer_of_descent" (defArgs s_answer_of_descent) (defBody s_answer_of_descent) (defScope s_answer_of_descent) .none kV_answer_of_descent dc_answer_of_descent pm_answer_of_descent an_answer_of_descent cd_answer_of_descent ct_answer_of_descent), sl_answer_of_descent⟩)
    (c_answer_of_descent_ : PySem.W.codeIn K cd_answer_of_descent "answer_of_descent" = true)
    (k_answer_of_descent : PySem.W.keepIn K (.ref f_answer_of_descent) = true)
    (a_answer_the_rest : PySem.W.nsIn K mainGlobals "answer_the_rest" = some (some (.ref f_answer_the_rest)))
    (l_answer_the_rest : K.lookup f_answer_the_rest = some ⟨oc_answer_the_rest, od_answer_the_rest, .func (PySem.W.fnOf "answer_the_rest" "answer_the_rest" (defArgs s_answer_the_rest) (defBody s_answer_the_rest) (defScope s_answer_the_rest) .none kV_answer_the_rest dc_answer_the_rest pm_answer_the_rest an_answer_the_rest cd_answer_the_rest ct_answer_the_rest), sl_answer_the_rest⟩)
    (c_answer_the_rest_ : PySem.W.codeIn K cd_answer_the_rest "answer_the_rest" = true)
    (k_answer_the_rest : PySem.W.keepIn K (.ref f_answer_the_rest) = true)
    (a_answer_call : PySem.W.nsIn K mainGlobals "answer_call" = some (some (.ref f_answer_call)))
    (l_answer_call : K.lookup f_answer_call = some ⟨oc_answer_call, od_answer_call, .func (PySem.W.fnOf "answer_call" "answer_call" (defArgs s_answer_call) (defBody s_answer_call) (defScope s_answer_call) .none kV_answer_call dc_answer_call pm_answer_call an_answer_call cd_answer_call ct_answer_call), sl_answer_call⟩)
    (c_answer_call_ : PySem.W.codeIn K cd_answer_call "answer_call" = true)
    (k_answer_call : PySem.W.keepIn K (.ref f_answer_call) = true)
    (a_answers : PySem.W.nsIn K mainGlobals "answers" = some (some (.ref f_answers)))
    (l_answers : K.lookup f_answers = some ⟨oc_answers, od_answers, .func (PySem.W.fnOf "answers" "answers" (defArgs s_answers) (defBody s_answers) (defScope s_answers) .none kV_answers dc_answers pm_answers an_answers cd_answers ct_answers), sl_answers⟩)
    (c_answers_ : PySem.W.codeIn K cd_answers "answers" = true)
    (k_answers : PySem.W.keepIn K (.ref f_answers) = true)
    (pg_State : PySem.W.plainGet K c_State Str.empty = true)
    (hd_State : PySem.W.hasDictIn K c_State = true)
    (po_State : PySem.W.plainOver K c_State = true)
    (sa_State : PySem.W.findIn K (.ref c_State) "__setattr__" = some (some (.builtin "object.__setattr__")))
    (mk_State : PySem.W.makesIn K c_State = true)
    (kc_State : PySem.W.keepIn K (.ref c_State) = true)
    (na_State_bound : PySem.W.findIn K (.ref c_State) "bound" = some none)
    (na_State_may_follow : PySem.W.findIn K (.ref c_State) "may_follow" = some none)
    (na_State_owes : PySem.W.findIn K (.ref c_State) "owes" = some none)
    (na_State_parted_from : PySem.W.findIn K (.ref c_State) "parted_from" = some none)
    (na_State_taken_by : PySem.W.findIn K (.ref c_State) "taken_by" = some none)
    (pg_Record : PySem.W.plainGet K c_Record Str.empty = true)
    (hd_Record : PySem.W.hasDictIn K c_Record = true)
    (po_Record : PySem.W.plainOver K c_Record = true)
    (sa_Record : PySem.W.findIn K (.ref c_Record) "__setattr__" = some (some (.builtin "object.__setattr__")))
    (mk_Record : PySem.W.makesIn K c_Record = true)
    (kc_Record : PySem.W.keepIn K (.ref c_Record) = true)
    (na_Record_treaties : PySem.W.findIn K (.ref c_Record) "treaties" = some none)
    (na_Record_states : PySem.W.findIn K (.ref c_Record) "states" = some none)
    (na_Record_earlier : PySem.W.findIn K (.ref c_Record) "earlier" = some none)
    (na_Record_undone : PySem.W.findIn K (.ref c_Record) "undone" = some none)
    (g_MOST_AT_START : PySem.W.nsIn K mainGlobals "MOST_AT_START" = some (some (.int (4) k_MOST_AT_START)))
    (g_MOST_TREATIES : PySem.W.nsIn K mainGlobals "MOST_TREATIES" = some (some (.int (8) k_MOST_TREATIES)))
    (g_MOST_UNITS : PySem.W.nsIn K mainGlobals "MOST_UNITS" = some (some (.int (1000000) k_MOST_UNITS)))
    (g_MOST_OWED : PySem.W.nsIn K mainGlobals "MOST_OWED" = some (some (.int (10000000) k_MOST_OWED)))
    (g_MOST_PARTS : PySem.W.nsIn K mainGlobals "MOST_PARTS" = some (some (.int (9) k_MOST_PARTS)))
    (g_MOST_STATES : PySem.W.nsIn K mainGlobals "MOST_STATES" = some (some (.int (12) k_MOST_STATES)))
    (g_MOST_TAKEN_BACK : PySem.W.nsIn K mainGlobals "MOST_TAKEN_BACK" = some (some (.int (20) k_MOST_TAKEN_BACK)))
    (g_THERE_IS_NONE : PySem.W.nsIn K mainGlobals "THERE_IS_NONE" = some (some (.int (-2) k_THERE_IS_NONE)))
    (g_NOT_SO : PySem.W.nsIn K mainGlobals "NOT_SO" = some (some (.int (-6) k_NOT_SO)))
    (g_OWES_LESS : PySem.W.nsIn K mainGlobals "OWES_LESS" = some (some (.int (-12) k_OWES_LESS)))
    (g_BOUND_ALREADY : PySem.W.nsIn K mainGlobals "BOUND_ALREADY" = some (some (.int (-17) k_BOUND_ALREADY)))
    (g_WRONG_NUMBER : PySem.W.nsIn K mainGlobals "WRONG_NUMBER" = some (some (.int (-22) k_WRONG_NUMBER)))
    (g_NO_MORE_STATES : PySem.W.nsIn K mainGlobals "NO_MORE_STATES" = some (some (.int (-28) k_NO_MORE_STATES)))
    (g_TOO_MUCH_OWED : PySem.W.nsIn K mainGlobals "TOO_MUCH_OWED" = some (some (.int (-75) k_TOO_MUCH_OWED)))
    (g_SIZES : PySem.W.nsIn K mainGlobals "SIZES" = some (some (.ref t_SIZES)))
    (gl_SIZES : K.lookup t_SIZES = some ⟨.type "tuple", none, .seq is_SIZES z_SIZES, #[]⟩)
    (gv_SIZES : is_SIZES.toList.map absV = [some (V.int 2), some (V.int 2), some (V.int 2), some (V.int 2), some (V.int 2), some (V.int 4), some (V.int 3), some (V.int 2), some (V.int 1), some (V.int 1), some (V.int 2), some (V.int 1), some (V.int 0), some (V.int 1), some (V.int 1), some (V.int 1), some (V.int 2), some (V.int 1), some (V.int 1), some (V.int 3), some (V.int 0), some (V.int 0), some (V.int 0)])
    (g_LAST_CHANGE : PySem.W.nsIn K mainGlobals "LAST_CHANGE" = some (some (.int (7) k_LAST_CHANGE)))
    (g_LAST_OF_TREATIES_AND_DEBTS : PySem.W.nsIn K mainGlobals "LAST_OF_TREATIES_AND_DEBTS" = some (some (.int (12) k_LAST_OF_TREATIES_AND_DEBTS)))
    (g_LAST_OF_DESCENT : PySem.W.nsIn K mainGlobals "LAST_OF_DESCENT" = some (some (.int (16) k_LAST_OF_DESCENT)))
    (no_enumerate : PySem.W.nsIn K mainGlobals "enumerate" = some none)
    (no_len : PySem.W.nsIn K mainGlobals "len" = some none)
    (no_range : PySem.W.nsIn K mainGlobals "range" = some none)
    (no_sum : PySem.W.nsIn K mainGlobals "sum" = some none)
    : ∃ nm : Nm, nm.f_answers = fa ∧ Txt nm K mg ∧ ∀ (s : Shared) (us : List Value), us.length = 1 → BindsTo s nm.d_answers ⟨us, []⟩ ((["calls"] : List Str).zip us) := by
  have e : f_answers = fa := by have q := (PySem.W.mg_of X G a_answers).symm.trans hfa; injection q with q; injection q
  have F_wrong_start := fun_mk (st := s_wrong_start) l_wrong_start c_wrong_start_ k_wrong_start
  have F_wrong_units := fun_mk (st := s_wrong_units) l_wrong_units c_wrong_units_ k_wrong_units
  have F_wrong_mode := fun_mk (st := s_wrong_mode) l_wrong_mode c_wrong_mode_ k_wrong_mode
  have F_wrong_parts := fun_mk (st := s_wrong_parts) l_wrong_parts c_wrong_parts_ k_wrong_parts
  have F_is_in := fun_mk (st := s_is_in) l_is_in c_is_in_ k_is_in
  have F_with_one := fun_mk (st := s_with_one) l_with_one c_with_one_ k_with_one
  have F_without_one := fun_mk (st := s_without_one) l_without_one c_without_one_ k_without_one
  have F_how_many := fun_mk (st := s_how_many) l_how_many c_how_many_ k_how_many
  have F_kept_share := fun_mk (st := s_kept_share) l_kept_share c_kept_share_ k_kept_share
  have F_State_init := fun_mk (st := s_State_init) l_State_init c_State_init_ k_State_init
  have F_State_is_there := fun_mk (st := s_State_is_there) l_State_is_there c_State_is_there_ k_State_is_there
  have F_State_vanish_into := fun_mk (st := s_State_vanish_into) l_State_vanish_into c_State_vanish_into_ k_State_vanish_into
  have F_State_copied := fun_mk (st := s_State_copied) l_State_copied c_State_copied_ k_State_copied
  have F_Record_init := fun_mk (st := s_Record_init) l_Record_init c_Record_init_ k_Record_init
  have F_Record_begin := fun_mk (st := s_Record_begin) l_Record_begin c_Record_begin_ k_Record_begin
  have F_Record_has_state := fun_mk (st := s_Record_has_state) l_Record_has_state c_Record_has_state_ k_Record_has_state
  have F_Record_had_state := fun_mk (st := s_Record_had_state) l_Record_had_state c_Record_had_state_ k_Record_had_state
  have F_Record_has_treaty := fun_mk (st := s_Record_has_treaty) l_Record_has_treaty c_Record_has_treaty_ k_Record_has_treaty
  have F_Record_is_full := fun_mk (st := s_Record_is_full) l_Record_is_full c_Record_is_full_ k_Record_is_full
  have F_Record_who_is_there := fun_mk (st := s_Record_who_is_there) l_Record_who_is_there c_Record_who_is_there_ k_Record_who_is_there
  have F_Record_total_debt := fun_mk (st := s_Record_total_debt) l_Record_total_debt c_Record_total_debt_ k_Record_total_debt
  have F_Record_who_is_bound := fun_mk (st := s_Record_who_is_bound) l_Record_who_is_bound c_Record_who_is_bound_ k_Record_who_is_bound
  have F_Record_line := fun_mk (st := s_Record_line) l_Record_line c_Record_line_ k_Record_line
  have F_Record_ends_up_in := fun_mk (st := s_Record_ends_up_in) l_Record_ends_up_in c_Record_ends_up_in_ k_Record_ends_up_in
  have F_Record_heirs := fun_mk (st := s_Record_heirs) l_Record_heirs c_Record_heirs_ k_Record_heirs
  have F_Record_part := fun_mk (st := s_Record_part) l_Record_part c_Record_part_ k_Record_part
  have F_Record_take_up := fun_mk (st := s_Record_take_up) l_Record_take_up c_Record_take_up_ k_Record_take_up
  have F_Record_copied_states := fun_mk (st := s_Record_copied_states) l_Record_copied_states c_Record_copied_states_ k_Record_copied_states
  have F_Record_keep_change := fun_mk (st := s_Record_keep_change) l_Record_keep_change c_Record_keep_change_ k_Record_keep_change
  have F_Record_take_back := fun_mk (st := s_Record_take_back) l_Record_take_back c_Record_take_back_ k_Record_take_back
  have F_Record_do_again := fun_mk (st := s_Record_do_again) l_Record_do_again c_Record_do_again_ k_Record_do_again
  have F_su_start := fun_mk (st := s_su_start) l_su_start c_su_start_ k_su_start
  have F_su_sign := fun_mk (st := s_su_sign) l_su_sign c_su_sign_ k_su_sign
  have F_su_leave := fun_mk (st := s_su_leave) l_su_leave c_su_leave_ k_su_leave
  have F_su_owe := fun_mk (st := s_su_owe) l_su_owe c_su_owe_ k_su_owe
  have F_su_pay := fun_mk (st := s_su_pay) l_su_pay c_su_pay_ k_su_pay
  have F_su_part := fun_mk (st := s_su_part) l_su_part c_su_part_ k_su_part
  have F_su_join := fun_mk (st := s_su_join) l_su_join c_su_join_ k_su_join
  have F_su_follow := fun_mk (st := s_su_follow) l_su_follow c_su_follow_ k_su_follow
  have F_one_more := fun_mk (st := s_one_more) l_one_more c_one_more_ k_one_more
  have F_su_from := fun_mk (st := s_su_from) l_su_from c_su_from_ k_su_from
  have F_su_line := fun_mk (st := s_su_line) l_su_line c_su_line_ k_su_line
  have F_su_heirs := fun_mk (st := s_su_heirs) l_su_heirs c_su_heirs_ k_su_heirs
  have F_su_kin := fun_mk (st := s_su_kin) l_su_kin c_su_kin_ k_su_kin
  have F_su_treaties := fun_mk (st := s_su_treaties) l_su_treaties c_su_treaties_ k_su_treaties
  have F_su_bound := fun_mk (st := s_su_bound) l_su_bound c_su_bound_ k_su_bound
  have F_su_common := fun_mk (st := s_su_common) l_su_common c_su_common_ k_su_common
  have F_su_debt := fun_mk (st := s_su_debt) l_su_debt c_su_debt_ k_su_debt
  have F_su_total := fun_mk (st := s_su_total) l_su_total c_su_total_ k_su_total
  have F_su_whole := fun_mk (st := s_su_whole) l_su_whole c_su_whole_ k_su_whole
  have F_su_could := fun_mk (st := s_su_could) l_su_could c_su_could_ k_su_could
  have F_su_would := fun_mk (st := s_su_would) l_su_would c_su_would_ k_su_would
  have F_su_state := fun_mk (st := s_su_state) l_su_state c_su_state_ k_su_state
  have F_su_back := fun_mk (st := s_su_back) l_su_back c_su_back_ k_su_back
  have F_su_again := fun_mk (st := s_su_again) l_su_again c_su_again_ k_su_again
  have F_make_change := fun_mk (st := s_make_change) l_make_change c_make_change_ k_make_change
  have F_answer_change := fun_mk (st := s_answer_change) l_answer_change c_answer_change_ k_answer_change
  have F_answer_of_treaties_and_debts := fun_mk (st := s_answer_of_treaties_and_debts) l_answer_of_treaties_and_debts c_answer_of_treaties_and_debts_ k_answer_of_treaties_and_debts
  have F_answer_of_descent := fun_mk (st := s_answer_of_descent) l_answer_of_descent c_answer_of_descent_ k_answer_of_descent
  have F_answer_the_rest := fun_mk (st := s_answer_the_rest) l_answer_the_rest c_answer_the_rest_ k_answer_the_rest
  have F_answer_call := fun_mk (st := s_answer_call) l_answer_call c_answer_call_ k_answer_call
  have F_answers := fun_mk (st := s_answers) l_answers c_answers_ k_answers
  exact ⟨⟨f_wrong_start, (PySem.W.fnOf "wrong_start" "wrong_start" (defArgs s_wrong_start) (defBody s_wrong_start) (defScope s_wrong_start) .none kV_wrong_start dc_wrong_start pm_wrong_start an_wrong_start cd_wrong_start ct_wrong_start), f_wrong_units, (PySem.W.fnOf "wrong_units" "wrong_units" (defArgs s_wrong_units) (defBody s_wrong_units) (defScope s_wrong_units) .none kV_wrong_units dc_wrong_units pm_wrong_units an_wrong_units cd_wrong_units ct_wrong_units), f_wrong_mode, (PySem.W.fnOf "wrong_mode" "wrong_mode" (defArgs s_wrong_mode) (defBody s_wrong_mode) (defScope s_wrong_mode) .none kV_wrong_mode dc_wrong_mode pm_wrong_mode an_wrong_mode cd_wrong_mode ct_wrong_mode), f_wrong_parts, (PySem.W.fnOf "wrong_parts" "wrong_parts" (defArgs s_wrong_parts) (defBody s_wrong_parts) (defScope s_wrong_parts) .none kV_wrong_parts dc_wrong_parts pm_wrong_parts an_wrong_parts cd_wrong_parts ct_wrong_parts), f_is_in, (PySem.W.fnOf "is_in" "is_in" (defArgs s_is_in) (defBody s_is_in) (defScope s_is_in) .none kV_is_in dc_is_in pm_is_in an_is_in cd_is_in ct_is_in), f_with_one, (PySem.W.fnOf "with_one" "with_one" (defArgs s_with_one) (defBody s_with_one) (defScope s_with_one) .none kV_with_one dc_with_one pm_with_one an_with_one cd_with_one ct_with_one), f_without_one, (PySem.W.fnOf "without_one" "without_one" (defArgs s_without_one) (defBody s_without_one) (defScope s_without_one) .none kV_without_one dc_without_one pm_without_one an_without_one cd_without_one ct_without_one), f_how_many, (PySem.W.fnOf "how_many" "how_many" (defArgs s_how_many) (defBody s_how_many) (defScope s_how_many) .none kV_how_many dc_how_many pm_how_many an_how_many cd_how_many ct_how_many), f_kept_share, (PySem.W.fnOf "kept_share" "kept_share" (defArgs s_kept_share) (defBody s_kept_share) (defScope s_kept_share) .none kV_kept_share dc_kept_share pm_kept_share an_kept_share cd_kept_share ct_kept_share), f_State_init, (PySem.W.fnOf "__init__" "State.__init__" (defArgs s_State_init) (defBody s_State_init) (defScope s_State_init) .none kV_State_init dc_State_init pm_State_init an_State_init cd_State_init ct_State_init), f_State_is_there, (PySem.W.fnOf "is_there" "State.is_there" (defArgs s_State_is_there) (defBody s_State_is_there) (defScope s_State_is_there) .none kV_State_is_there dc_State_is_there pm_State_is_there an_State_is_there cd_State_is_there ct_State_is_there), f_State_vanish_into, (PySem.W.fnOf "vanish_into" "State.vanish_into" (defArgs s_State_vanish_into) (defBody s_State_vanish_into) (defScope s_State_vanish_into) .none kV_State_vanish_into dc_State_vanish_into pm_State_vanish_into an_State_vanish_into cd_State_vanish_into ct_State_vanish_into), f_State_copied, (PySem.W.fnOf "copied" "State.copied" (defArgs s_State_copied) (defBody s_State_copied) (defScope s_State_copied) .none kV_State_copied dc_State_copied pm_State_copied an_State_copied cd_State_copied ct_State_copied), f_Record_init, (PySem.W.fnOf "__init__" "Record.__init__" (defArgs s_Record_init) (defBody s_Record_init) (defScope s_Record_init) .none kV_Record_init dc_Record_init pm_Record_init an_Record_init cd_Record_init ct_Record_init), f_Record_begin, (PySem.W.fnOf "begin" "Record.begin" (defArgs s_Record_begin) (defBody s_Record_begin) (defScope s_Record_begin) .none kV_Record_begin dc_Record_begin pm_Record_begin an_Record_begin cd_Record_begin ct_Record_begin), f_Record_has_state, (PySem.W.fnOf "has_state" "Record.has_state" (defArgs s_Record_has_state) (defBody s_Record_has_state) (defScope s_Record_has_state) .none kV_Record_has_state dc_Record_has_state pm_Record_has_state an_Record_has_state cd_Record_has_state ct_Record_has_state), f_Record_had_state, (PySem.W.fnOf "had_state" "Record.had_state" (defArgs s_Record_had_state) (defBody s_Record_had_state) (defScope s_Record_had_state) .none kV_Record_had_state dc_Record_had_state pm_Record_had_state an_Record_had_state cd_Record_had_state ct_Record_had_state), f_Record_has_treaty, (PySem.W.fnOf "has_treaty" "Record.has_treaty" (defArgs s_Record_has_treaty) (defBody s_Record_has_treaty) (defScope s_Record_has_treaty) .none kV_Record_has_treaty dc_Record_has_treaty pm_Record_has_treaty an_Record_has_treaty cd_Record_has_treaty ct_Record_has_treaty), f_Record_is_full, (PySem.W.fnOf "is_full" "Record.is_full" (defArgs s_Record_is_full) (defBody s_Record_is_full) (defScope s_Record_is_full) .none kV_Record_is_full dc_Record_is_full pm_Record_is_full an_Record_is_full cd_Record_is_full ct_Record_is_full), f_Record_who_is_there, (PySem.W.fnOf "who_is_there" "Record.who_is_there" (defArgs s_Record_who_is_there) (defBody s_Record_who_is_there) (defScope s_Record_who_is_there) .none kV_Record_who_is_there dc_Record_who_is_there pm_Record_who_is_there an_Record_who_is_there cd_Record_who_is_there ct_Record_who_is_there), f_Record_total_debt, (PySem.W.fnOf "total_debt" "Record.total_debt" (defArgs s_Record_total_debt) (defBody s_Record_total_debt) (defScope s_Record_total_debt) .none kV_Record_total_debt dc_Record_total_debt pm_Record_total_debt an_Record_total_debt cd_Record_total_debt ct_Record_total_debt), f_Record_who_is_bound, (PySem.W.fnOf "who_is_bound" "Record.who_is_bound" (defArgs s_Record_who_is_bound) (defBody s_Record_who_is_bound) (defScope s_Record_who_is_bound) .none kV_Record_who_is_bound dc_Record_who_is_bound pm_Record_who_is_bound an_Record_who_is_bound cd_Record_who_is_bound ct_Record_who_is_bound), f_Record_line, (PySem.W.fnOf "line" "Record.line" (defArgs s_Record_line) (defBody s_Record_line) (defScope s_Record_line) .none kV_Record_line dc_Record_line pm_Record_line an_Record_line cd_Record_line ct_Record_line), f_Record_ends_up_in, (PySem.W.fnOf "ends_up_in" "Record.ends_up_in" (defArgs s_Record_ends_up_in) (defBody s_Record_ends_up_in) (defScope s_Record_ends_up_in) .none kV_Record_ends_up_in dc_Record_ends_up_in pm_Record_ends_up_in an_Record_ends_up_in cd_Record_ends_up_in ct_Record_ends_up_in), f_Record_heirs, (PySem.W.fnOf "heirs" "Record.heirs" (defArgs s_Record_heirs) (defBody s_Record_heirs) (defScope s_Record_heirs) .none kV_Record_heirs dc_Record_heirs pm_Record_heirs an_Record_heirs cd_Record_heirs ct_Record_heirs), f_Record_part, (PySem.W.fnOf "part" "Record.part" (defArgs s_Record_part) (defBody s_Record_part) (defScope s_Record_part) .none kV_Record_part dc_Record_part pm_Record_part an_Record_part cd_Record_part ct_Record_part), f_Record_take_up, (PySem.W.fnOf "take_up" "Record.take_up" (defArgs s_Record_take_up) (defBody s_Record_take_up) (defScope s_Record_take_up) .none kV_Record_take_up dc_Record_take_up pm_Record_take_up an_Record_take_up cd_Record_take_up ct_Record_take_up), f_Record_copied_states, (PySem.W.fnOf "copied_states" "Record.copied_states" (defArgs s_Record_copied_states) (defBody s_Record_copied_states) (defScope s_Record_copied_states) .none kV_Record_copied_states dc_Record_copied_states pm_Record_copied_states an_Record_copied_states cd_Record_copied_states ct_Record_copied_states), f_Record_keep_change, (PySem.W.fnOf "keep_change" "Record.keep_change" (defArgs s_Record_keep_change) (defBody s_Record_keep_change) (defScope s_Record_keep_change) .none kV_Record_keep_change dc_Record_keep_change pm_Record_keep_change an_Record_keep_change cd_Record_keep_change ct_Record_keep_change), f_Record_take_back, (PySem.W.fnOf "take_back" "Record.take_back" (defArgs s_Record_take_back) (defBody s_Record_take_back) (defScope s_Record_take_back) .none kV_Record_take_back dc_Record_take_back pm_Record_take_back an_Record_take_back cd_Record_take_back ct_Record_take_back), f_Record_do_again, (PySem.W.fnOf "do_again" "Record.do_again" (defArgs s_Record_do_again) (defBody s_Record_do_again) (defScope s_Record_do_again) .none kV_Record_do_again dc_Record_do_again pm_Record_do_again an_Record_do_again cd_Record_do_again ct_Record_do_again), f_su_start, (PySem.W.fnOf "su_start" "su_start" (defArgs s_su_start) (defBody s_su_start) (defScope s_su_start) .none kV_su_start dc_su_start pm_su_start an_su_start cd_su_start ct_su_start), f_su_sign, (PySem.W.fnOf "su_sign" "su_sign" (defArgs s_su_sign) (defBody s_su_sign) (defScope s_su_sign) .none kV_su_sign dc_su_sign pm_su_sign an_su_sign cd_su_sign ct_su_sign), f_su_leave, (PySem.W.fnOf "su_leave" "su_leave" (defArgs s_su_leave) (defBody s_su_leave) (defScope s_su_leave) .none kV_su_leave dc_su_leave pm_su_leave an_su_leave cd_su_leave ct_su_leave), f_su_owe, (PySem.W.fnOf "su_owe" "su_owe" (defArgs s_su_owe) (defBody s_su_owe) (defScope s_su_owe) .none kV_su_owe dc_su_owe pm_su_owe an_su_owe cd_su_owe ct_su_owe), f_su_pay, (PySem.W.fnOf "su_pay" "su_pay" (defArgs s_su_pay) (defBody s_su_pay) (defScope s_su_pay) .none kV_su_pay dc_su_pay pm_su_pay an_su_pay cd_su_pay ct_su_pay), f_su_part, (PySem.W.fnOf "su_part" "su_part" (defArgs s_su_part) (defBody s_su_part) (defScope s_su_part) .none kV_su_part dc_su_part pm_su_part an_su_part cd_su_part ct_su_part), f_su_join, (PySem.W.fnOf "su_join" "su_join" (defArgs s_su_join) (defBody s_su_join) (defScope s_su_join) .none kV_su_join dc_su_join pm_su_join an_su_join cd_su_join ct_su_join), f_su_follow, (PySem.W.fnOf "su_follow" "su_follow" (defArgs s_su_follow) (defBody s_su_follow) (defScope s_su_follow) .none kV_su_follow dc_su_follow pm_su_follow an_su_follow cd_su_follow ct_su_follow), f_one_more, (PySem.W.fnOf "one_more" "one_more" (defArgs s_one_more) (defBody s_one_more) (defScope s_one_more) .none kV_one_more dc_one_more pm_one_more an_one_more cd_one_more ct_one_more), f_su_from, (PySem.W.fnOf "su_from" "su_from" (defArgs s_su_from) (defBody s_su_from) (defScope s_su_from) .none kV_su_from dc_su_from pm_su_from an_su_from cd_su_from ct_su_from), f_su_line, (PySem.W.fnOf "su_line" "su_line" (defArgs s_su_line) (defBody s_su_line) (defScope s_su_line) .none kV_su_line dc_su_line pm_su_line an_su_line cd_su_line ct_su_line), f_su_heirs, (PySem.W.fnOf "su_heirs" "su_heirs" (defArgs s_su_heirs) (defBody s_su_heirs) (defScope s_su_heirs) .none kV_su_heirs dc_su_heirs pm_su_heirs an_su_heirs cd_su_heirs ct_su_heirs), f_su_kin, (PySem.W.fnOf "su_kin" "su_kin" (defArgs s_su_kin) (defBody s_su_kin) (defScope s_su_kin) .none kV_su_kin dc_su_kin pm_su_kin an_su_kin cd_su_kin ct_su_kin), f_su_treaties, (PySem.W.fnOf "su_treaties" "su_treaties" (defArgs s_su_treaties) (defBody s_su_treaties) (defScope s_su_treaties) .none kV_su_treaties dc_su_treaties pm_su_treaties an_su_treaties cd_su_treaties ct_su_treaties), f_su_bound, (PySem.W.fnOf "su_bound" "su_bound" (defArgs s_su_bound) (defBody s_su_bound) (defScope s_su_bound) .none kV_su_bound dc_su_bound pm_su_bound an_su_bound cd_su_bound ct_su_bound), f_su_common, (PySem.W.fnOf "su_common" "su_common" (defArgs s_su_common) (defBody s_su_common) (defScope s_su_common) .none kV_su_common dc_su_common pm_su_common an_su_common cd_su_common ct_su_common), f_su_debt, (PySem.W.fnOf "su_debt" "su_debt" (defArgs s_su_debt) (defBody s_su_debt) (defScope s_su_debt) .none kV_su_debt dc_su_debt pm_su_debt an_su_debt cd_su_debt ct_su_debt), f_su_total, (PySem.W.fnOf "su_total" "su_total" (defArgs s_su_total) (defBody s_su_total) (defScope s_su_total) .none kV_su_total dc_su_total pm_su_total an_su_total cd_su_total ct_su_total), f_su_whole, (PySem.W.fnOf "su_whole" "su_whole" (defArgs s_su_whole) (defBody s_su_whole) (defScope s_su_whole) .none kV_su_whole dc_su_whole pm_su_whole an_su_whole cd_su_whole ct_su_whole), f_su_could, (PySem.W.fnOf "su_could" "su_could" (defArgs s_su_could) (defBody s_su_could) (defScope s_su_could) .none kV_su_could dc_su_could pm_su_could an_su_could cd_su_could ct_su_could), f_su_would, (PySem.W.fnOf "su_would" "su_would" (defArgs s_su_would) (defBody s_su_would) (defScope s_su_would) .none kV_su_would dc_su_would pm_su_would an_su_would cd_su_would ct_su_would), f_su_state, (PySem.W.fnOf "su_state" "su_state" (defArgs s_su_state) (defBody s_su_state) (defScope s_su_state) .none kV_su_state dc_su_state pm_su_state an_su_state cd_su_state ct_su_state), f_su_back, (PySem.W.fnOf "su_back" "su_back" (defArgs s_su_back) (defBody s_su_back) (defScope s_su_back) .none kV_su_back dc_su_back pm_su_back an_su_back cd_su_back ct_su_back), f_su_again, (PySem.W.fnOf "su_again" "su_again" (defArgs s_su_again) (defBody s_su_again) (defScope s_su_again) .none kV_su_again dc_su_again pm_su_again an_su_again cd_su_again ct_su_again), f_make_change, (PySem.W.fnOf "make_change" "make_change" (defArgs s_make_change) (defBody s_make_change) (defScope s_make_change) .none kV_make_change dc_make_change pm_make_change an_make_change cd_make_change ct_make_change), f_answer_change, (PySem.W.fnOf "answer_change" "answer_change" (defArgs s_answer_change) (defBody s_answer_change) (defScope s_answer_change) .none kV_answer_change dc_answer_change pm_answer_change an_answer_change cd_answer_change ct_answer_change), f_answer_of_treaties_and_debts, (PySem.W.fnOf "answer_of_treaties_and_debts" "answer_of_treaties_and_debts" (defArgs s_answer_of_treaties_and_debts) (defBody s_answer_of_treaties_and_debts) (defScope s_answer_of_treaties_and_debts) .none kV_answer_of_treaties_and_debts dc_answer_of_treaties_and_debts pm_answer_of_treaties_and_debts an_answer_of_treaties_and_debts cd_answer_of_treaties_and_debts ct_answer_of_treaties_and_debts), f_answer_of_descent, (PySem.W.fnOf "answer_of_descent" "answer_of_descent" (defArgs s_answer_of_descent) (defBody s_answer_of_descent) (defScope s_answer_of_descent) .none kV_answer_of_descent dc_answer_of_descent pm_answer_of_descent an_answer_of_descent cd_answer_of_descent ct_answer_of_descent), f_answer_the_rest, (PySem.W.fnOf "answer_the_rest" "answer_the_rest" (defArgs s_answer_the_rest) (defBody s_answer_the_rest) (defScope s_answer_the_rest) .none kV_answer_the_rest dc_answer_the_rest pm_answer_the_rest an_answer_the_rest cd_answer_the_rest ct_answer_the_rest), f_answer_call, (PySem.W.fnOf "answer_call" "answer_call" (defArgs s_answer_call) (defBody s_answer_call) (defScope s_answer_call) .none kV_answer_call dc_answer_call pm_answer_call an_answer_call cd_answer_call ct_answer_call), f_answers, (PySem.W.fnOf "answers" "answers" (defArgs s_answers) (defBody s_answers) (defScope s_answers) .none kV_answers dc_answers pm_answers an_answers cd_answers ct_answers), c_State, c_Record, t_SIZES⟩, e, ⟨F_wrong_start,
    (F_wrong_start.binds (ps := ["n", "t"]) fun _ _ _ _ _ _ us hl => match us, hl with | [_, _], _ => rfl),
    (PySem.W.mg_of X G a_wrong_start),
    F_wrong_units,
    (F_wrong_units.binds (ps := ["x"]) fun _ _ _ _ _ _ us hl => match us, hl with | [_], _ => rfl),
    (PySem.W.mg_of X G a_wrong_units),
    F_wrong_mode,
    (F_wrong_mode.binds (ps := ["mode"]) fun _ _ _ _ _ _ us hl => match us, hl with | [_], _ => rfl),
    (PySem.W.mg_of X G a_wrong_mode),
    F_wrong_parts,
    (F_wrong_parts.binds (ps := ["p", "q"]) fun _ _ _ _ _ _ us hl => match us, hl with | [_, _], _ => rfl),
    (PySem.W.mg_of X G a_wrong_parts),
    F_is_in,
    (F_is_in.binds (ps := ["one", "many"]) fun _ _ _ _ _ _ us hl => match us, hl with | [_, _], _ => rfl),
    (PySem.W.mg_of X G a_is_in),
    F_with_one,
    (F_with_one.binds (ps := ["one", "many"]) fun _ _ _ _ _ _ us hl => match us, hl with | [_, _], _ => rfl),
    (PySem.W.mg_of X G a_with_one),
    F_without_one,
    (F_without_one.binds (ps := ["one", "many"]) fun _ _ _ _ _ _ us hl => match us, hl with | [_, _], _ => rfl),
    (PySem.W.mg_of X G a_without_one),
    F_how_many,
    (F_how_many.binds (ps := ["many"]) fun _ _ _ _ _ _ us hl => match us, hl with | [_], _ => rfl),
    (PySem.W.mg_of X G a_how_many),
    F_kept_share,
    (F_kept_share.binds (ps := ["owes", "p", "q"]) fun _ _ _ _ _ _ us hl => match us, hl with | [_, _, _], _ => rfl),
    (PySem.W.mg_of X G a_kept_share),
    F_State_init,
    (F_State_init.binds (ps := ["self", "bound", "may_follow", "owes", "parted_from"]) fun _ _ _ _ _ _ us hl => match us, hl with | [_, _, _, _, _], _ => rfl),
    F_State_is_there,
    (F_State_is_there.binds (ps := ["self"]) fun _ _ _ _ _ _ us hl => match us, hl with | [_], _ => rfl),
    ⟨a_State_is_there, i_State_is_there, k_State_is_there⟩,
    F_State_vanish_into,
    (F_State_vanish_into.binds (ps := ["self", "taker"]) fun _ _ _ _ _ _ us hl => match us, hl with | [_, _], _ => rfl),
    ⟨a_State_vanish_into, i_State_vanish_into, k_State_vanish_into⟩,
    F_State_copied,
    (F_State_copied.binds (ps := ["self"]) fun _ _ _ _ _ _ us hl => match us, hl with | [_], _ => rfl),
    ⟨a_State_copied, i_State_copied, k_State_copied⟩,
    F_Record_init,
    (F_Record_init.binds (ps := ["self"]) fun _ _ _ _ _ _ us hl => match us, hl with | [_], _ => rfl),
    F_Record_begin,
    (F_Record_begin.binds (ps := ["self", "n", "t"]) fun _ _ _ _ _ _ us hl => match us, hl with | [_, _, _], _ => rfl),
    ⟨a_Record_begin, i_Record_begin, k_Record_begin⟩,
    F_Record_has_state,
    (F_Record_has_state.binds (ps := ["self", "i"]) fun _ _ _ _ _ _ us hl => match us, hl with | [_, _], _ => rfl),
    ⟨a_Record_has_state, i_Record_has_state, k_Record_has_state⟩,
    F_Record_had_state,
    (F_Record_had_state.binds (ps := ["self", "i"]) fun _ _ _ _ _ _ us hl => match us, hl with | [_, _], _ => rfl),
    ⟨a_Record_had_state, i_Record_had_state, k_Record_had_state⟩,
    F_Record_has_treaty,
    (F_Record_has_treaty.binds (ps := ["self", "t"]) fun _ _ _ _ _ _ us hl => match us, hl with | [_, _], _ => rfl),
    ⟨a_Record_has_treaty, i_Record_has_treaty, k_Record_has_treaty⟩,
    F_Record_is_full,
    (F_Record_is_full.binds (ps := ["self"]) fun _ _ _ _ _ _ us hl => match us, hl with | [_], _ => rfl),
    ⟨a_Record_is_full, i_Record_is_full, k_Record_is_full⟩,
    F_Record_who_is_there,
    (F_Record_who_is_there.binds (ps := ["self"]) fun _ _ _ _ _ _ us hl => match us, hl with | [_], _ => rfl),
    ⟨a_Record_who_is_there, i_Record_who_is_there, k_Record_who_is_there⟩,
    F_Record_total_debt,
    (F_Record_total_debt.binds (ps := ["self"]) fun _ _ _ _ _ _ us hl => match us, hl with | [_], _ => rfl),
    ⟨a_Record_total_debt, i_Record_total_debt, k_Record_total_debt⟩,
    F_Record_who_is_bound,
    (F_Record_who_is_bound.binds (ps := ["self", "t"]) fun _ _ _ _ _ _ us hl => match us, hl with | [_, _], _ => rfl),
    ⟨a_Record_who_is_bound, i_Record_who_is_bound, k_Record_who_is_bound⟩,
    F_Record_line,
    (F_Record_line.binds (ps := ["self", "i"]) fun _ _ _ _ _ _ us hl => match us, hl with | [_, _], _ => rfl),
    ⟨a_Record_line, i_Record_line, k_Record_line⟩,
    F_Record_ends_up_in,
    (F_Record_ends_up_in.binds (ps := ["self", "i"]) fun _ _ _ _ _ _ us hl => match us, hl with | [_, _], _ => rfl),
    ⟨a_Record_ends_up_in, i_Record_ends_up_in, k_Record_ends_up_in⟩,
    F_Record_heirs,
    (F_Record_heirs.binds (ps := ["self", "i"]) fun _ _ _ _ _ _ us hl => match us, hl with | [_, _], _ => rfl),
    ⟨a_Record_heirs, i_Record_heirs, k_Record_heirs⟩,
    F_Record_part,
    (F_Record_part.binds (ps := ["self", "i", "mode", "p", "q"]) fun _ _ _ _ _ _ us hl => match us, hl with | [_, _, _, _, _], _ => rfl),
    ⟨a_Record_part, i_Record_part, k_Record_part⟩,
    F_Record_take_up,
    (F_Record_take_up.binds (ps := ["self", "i", "j", "mode"]) fun _ _ _ _ _ _ us hl => match us, hl with | [_, _, _, _], _ => rfl),
    ⟨a_Record_take_up, i_Record_take_up, k_Record_take_up⟩,
    F_Record_copied_states,
    (F_Record_copied_states.binds (ps := ["self"]) fun _ _ _ _ _ _ us hl => match us, hl with | [_], _ => rfl),
    ⟨a_Record_copied_states, i_Record_copied_states, k_Record_copied_states⟩,
    F_Record_keep_change,
    (F_Record_keep_change.binds (ps := ["self", "before"]) fun _ _ _ _ _ _ us hl => match us, hl with | [_, _], _ => rfl),
    ⟨a_Record_keep_change, i_Record_keep_change, k_Record_keep_change⟩,
    F_Record_take_back,
    (F_Record_take_back.binds (ps := ["self"]) fun _ _ _ _ _ _ us hl => match us, hl with | [_], _ => rfl),
    ⟨a_Record_take_back, i_Record_take_back, k_Record_take_back⟩,
    F_Record_do_again,
    (F_Record_do_again.binds (ps := ["self"]) fun _ _ _ _ _ _ us hl => match us, hl with | [_], _ => rfl),
    ⟨a_Record_do_again, i_Record_do_again, k_Record_do_again⟩,
    F_su_start,
    (F_su_start.binds (ps := ["record", "n", "t"]) fun _ _ _ _ _ _ us hl => match us, hl with | [_, _, _], _ => rfl),
    (PySem.W.mg_of X G a_su_start),
    F_su_sign,
    (F_su_sign.binds (ps := ["record", "i", "t"]) fun _ _ _ _ _ _ us hl => match us, hl with | [_, _, _], _ => rfl),
    (PySem.W.mg_of X G a_su_sign),
    F_su_leave,
    (F_su_leave.binds (ps := ["record", "i", "t"]) fun _ _ _ _ _ _ us hl => match us, hl with | [_, _, _], _ => rfl),
    (PySem.W.mg_of X G a_su_leave),
    F_su_owe,
    (F_su_owe.binds (ps := ["record", "i", "x"]) fun _ _ _ _ _ _ us hl => match us, hl with | [_, _, _], _ => rfl),
    (PySem.W.mg_of X G a_su_owe),
    F_su_pay,
    (F_su_pay.binds (ps := ["record", "i", "x"]) fun _ _ _ _ _ _ us hl => match us, hl with | [_, _, _], _ => rfl),
    (PySem.W.mg_of X G a_su_pay),
    F_su_part,
    (F_su_part.binds (ps := ["record", "i", "mode", "p", "q"]) fun _ _ _ _ _ _ us hl => match us, hl with | [_, _, _, _, _], _ => rfl),
    (PySem.W.mg_of X G a_su_part),
    F_su_join,
    (F_su_join.binds (ps := ["record", "i", "j", "mode"]) fun _ _ _ _ _ _ us hl => match us, hl with | [_, _, _, _], _ => rfl),
    (PySem.W.mg_of X G a_su_join),
    F_su_follow,
    (F_su_follow.binds (ps := ["record", "i", "t"]) fun _ _ _ _ _ _ us hl => match us, hl with | [_, _, _], _ => rfl),
    (PySem.W.mg_of X G a_su_follow),
    F_one_more,
    (F_one_more.binds (ps := ["number"]) fun _ _ _ _ _ _ us hl => match us, hl with | [_], _ => rfl),
    (PySem.W.mg_of X G a_one_more),
    F_su_from,
    (F_su_from.binds (ps := ["record", "i"]) fun _ _ _ _ _ _ us hl => match us, hl with | [_, _], _ => rfl),
    (PySem.W.mg_of X G a_su_from),
    F_su_line,
    (F_su_line.binds (ps := ["record", "i"]) fun _ _ _ _ _ _ us hl => match us, hl with | [_, _], _ => rfl),
    (PySem.W.mg_of X G a_su_line),
    F_su_heirs,
    (F_su_heirs.binds (ps := ["record", "i"]) fun _ _ _ _ _ _ us hl => match us, hl with | [_, _], _ => rfl),
    (PySem.W.mg_of X G a_su_heirs),
    F_su_kin,
    (F_su_kin.binds (ps := ["record", "i", "j"]) fun _ _ _ _ _ _ us hl => match us, hl with | [_, _, _], _ => rfl),
    (PySem.W.mg_of X G a_su_kin),
    F_su_treaties,
    (F_su_treaties.binds (ps := ["record", "i"]) fun _ _ _ _ _ _ us hl => match us, hl with | [_, _], _ => rfl),
    (PySem.W.mg_of X G a_su_treaties),
    F_su_bound,
    (F_su_bound.binds (ps := ["record", "t"]) fun _ _ _ _ _ _ us hl => match us, hl with | [_, _], _ => rfl),
    (PySem.W.mg_of X G a_su_bound),
    F_su_common,
    (F_su_common.binds (ps := ["record", "i", "j"]) fun _ _ _ _ _ _ us hl => match us, hl with | [_, _, _], _ => rfl),
    (PySem.W.mg_of X G a_su_common),
    F_su_debt,
    (F_su_debt.binds (ps := ["record", "i"]) fun _ _ _ _ _ _ us hl => match us, hl with | [_, _], _ => rfl),
    (PySem.W.mg_of X G a_su_debt),
    F_su_total,
    (F_su_total.binds (ps := ["record"]) fun _ _ _ _ _ _ us hl => match us, hl with | [_], _ => rfl),
    (PySem.W.mg_of X G a_su_total),
    F_su_whole,
    (F_su_whole.binds (ps := ["record", "t"]) fun _ _ _ _ _ _ us hl => match us, hl with | [_, _], _ => rfl),
    (PySem.W.mg_of X G a_su_whole),
    F_su_could,
    (F_su_could.binds (ps := ["record", "i"]) fun _ _ _ _ _ _ us hl => match us, hl with | [_, _], _ => rfl),
    (PySem.W.mg_of X G a_su_could),
    F_su_would,
    (F_su_would.binds (ps := ["record", "i", "p", "q"]) fun _ _ _ _ _ _ us hl => match us, hl with | [_, _, _, _], _ => rfl),
    (PySem.W.mg_of X G a_su_would),
    F_su_state,
    (F_su_state.binds (ps := ["record"]) fun _ _ _ _ _ _ us hl => match us, hl with | [_], _ => rfl),
    (PySem.W.mg_of X G a_su_state),
    F_su_back,
    (F_su_back.binds (ps := ["record"]) fun _ _ _ _ _ _ us hl => match us, hl with | [_], _ => rfl),
    (PySem.W.mg_of X G a_su_back),
    F_su_again,
    (F_su_again.binds (ps := ["record"]) fun _ _ _ _ _ _ us hl => match us, hl with | [_], _ => rfl),
    (PySem.W.mg_of X G a_su_again),
    F_make_change,
    (F_make_change.binds (ps := ["record", "number", "given"]) fun _ _ _ _ _ _ us hl => match us, hl with | [_, _, _], _ => rfl),
    (PySem.W.mg_of X G a_make_change),
    F_answer_change,
    (F_answer_change.binds (ps := ["record", "number", "given"]) fun _ _ _ _ _ _ us hl => match us, hl with | [_, _, _], _ => rfl),
    (PySem.W.mg_of X G a_answer_change),
    F_answer_of_treaties_and_debts,
    (F_answer_of_treaties_and_debts.binds (ps := ["record", "number", "given"]) fun _ _ _ _ _ _ us hl => match us, hl with | [_, _, _], _ => rfl),
    (PySem.W.mg_of X G a_answer_of_treaties_and_debts),
    F_answer_of_descent,
    (F_answer_of_descent.binds (ps := ["record", "number", "given"]) fun _ _ _ _ _ _ us hl => match us, hl with | [_, _, _], _ => rfl),
    (PySem.W.mg_of X G a_answer_of_descent),
    F_answer_the_rest,
    (F_answer_the_rest.binds (ps := ["record", "number", "given"]) fun _ _ _ _ _ _ us hl => match us, hl with | [_, _, _], _ => rfl),
    (PySem.W.mg_of X G a_answer_the_rest),
    F_answer_call,
    (F_answer_call.binds (ps := ["record", "number", "given"]) fun _ _ _ _ _ _ us hl => match us, hl with | [_, _, _], _ => rfl),
    (PySem.W.mg_of X G a_answer_call),
    F_answers,
    (F_answers.binds (ps := ["calls"]) fun _ _ _ _ _ _ us hl => match us, hl with | [_], _ => rfl),
    (PySem.W.mg_of X G a_answers),
    ⟨pg_State, hd_State, po_State, sa_State⟩,
    (PySem.W.mg_of X G hC_State),
    ⟨mk_State, a_State_init, i_State_init, kc_State⟩,
    na_State_bound,
    na_State_may_follow,
    na_State_owes,
    na_State_parted_from,
    na_State_taken_by,
    ⟨pg_Record, hd_Record, po_Record, sa_Record⟩,
    (PySem.W.mg_of X G hC_Record),
    ⟨mk_Record, a_Record_init, i_Record_init, kc_Record⟩,
    na_Record_treaties,
    na_Record_states,
    na_Record_earlier,
    na_Record_undone,
    ⟨_, PySem.W.mg_of X G g_MOST_AT_START⟩,
    ⟨_, PySem.W.mg_of X G g_MOST_TREATIES⟩,
    ⟨_, PySem.W.mg_of X G g_MOST_UNITS⟩,
    ⟨_, PySem.W.mg_of X G g_MOST_OWED⟩,
    ⟨_, PySem.W.mg_of X G g_MOST_PARTS⟩,
    ⟨_, PySem.W.mg_of X G g_MOST_STATES⟩,
    ⟨_, PySem.W.mg_of X G g_MOST_TAKEN_BACK⟩,
    ⟨_, PySem.W.mg_of X G g_THERE_IS_NONE⟩,
    ⟨_, PySem.W.mg_of X G g_NOT_SO⟩,
    ⟨_, PySem.W.mg_of X G g_OWES_LESS⟩,
    ⟨_, PySem.W.mg_of X G g_BOUND_ALREADY⟩,
    ⟨_, PySem.W.mg_of X G g_WRONG_NUMBER⟩,
    ⟨_, PySem.W.mg_of X G g_NO_MORE_STATES⟩,
    ⟨_, PySem.W.mg_of X G g_TOO_MUCH_OWED⟩,
    (PySem.W.mg_of X G g_SIZES),
    (fun H => tup_of gl_SIZES gv_SIZES),
    ⟨_, PySem.W.mg_of X G g_LAST_CHANGE⟩,
    ⟨_, PySem.W.mg_of X G g_LAST_OF_TREATIES_AND_DEBTS⟩,
    ⟨_, PySem.W.mg_of X G g_LAST_OF_DESCENT⟩,
    (PySem.W.ns_none_of X G no_enumerate),
    (PySem.W.ns_none_of X G no_len),
    (PySem.W.ns_none_of X G no_range),
    (PySem.W.ns_none_of X G no_sum)⟩, fun s us hu => match us, hu with | [_], _ => .of_eq rfl⟩
end Sh
set_option Elab.async false
set_option linter.all false
/-! The list that is handed in, as calls. -/
namespace Sh
open Km484
def enc : Call → List Int
  | .start n t => [0, n, t]
  | .sign i t => [1, i, t]
  | .leave i t => [2, i, t]
  | .owe i x => [3, i, x]
  | .pay i x => [4, i, x]
  | .part i mode p q => [5, i, mode, p, q]
  | .join i j mode => [6, i, j, mode]
  | .follow i t => [7, i, t]
  | .treaties i => [8, i]
  | .bound t => [9, t]
  | .common i j => [10, i, j]
  | .debt i => [11, i]
  | .total => [12]
  | .from_ i => [13, i]
  | .line i => [14, i]
  | .heirs i => [15, i]
  | .kin i j => [16, i, j]
  | .whole t => [17, t]
  | .could i => [18, i]
  | .would i p q => [19, i, p, q]
  | .back => [20]
  | .again => [21]
  | .state => [22]
/-- the call's numbers are below 2^32 -/
def small (x : Call) : Prop := ∀ z ∈ enc x, z < 4294967296
theorem nat_of {z : Int} {k : Nat} (h : Km484Neutral.natural z k = true) : 0 ≤ z ∧ z < 2 ^ k := by
  unfold Km484Neutral.natural at h
  simpa using h
theorem len_nil {l : List Int} (h : l.length = 0) : l = [] := List.length_eq_zero_iff.mp h
theorem len_cons {l : List Int} {k : Nat} (h : l.length = k + 1) : ∃ x r, l = x :: r ∧ r.length = k := by
  cases l with
  | nil => cases h
  | cons x r => exact ⟨x, r, rfl, by simpa using h⟩
/-- the call of a place, if it is one of the places -/
def Good (p : Int) (args : List Int) : Prop := PyKm484.whole [p :: args] = [p :: args] ∧ (Km484Neutral.asked1 [p :: args] = true → ∃ x, [p :: args] = [enc x] ∧ Km484Neutral.callOf [p :: args] = some x ∧ small x)
theorem cs {z : Int} (h : 0 ≤ z) : ((z.toNat : Nat) : Int) = z := Int.toNat_of_nonneg h
theorem good_0 (b0 b1 : Int) : Good 0 [b0, b1] := ⟨rfl, fun h => by
  have h : (Km484Neutral.natural b0 32 && Km484Neutral.natural b1 32) = true := h
  simp only [Bool.and_eq_true] at h
  obtain ⟨h0, h1⟩ := h
  have a0 := nat_of h0
  have a1 := nat_of h1
  exact ⟨.start b0.toNat b1.toNat, by simp only [enc, cs a0.1, cs a1.1], rfl, by unfold small enc; simp [cs a0.1, cs a1.1]; omega⟩⟩
theorem good_1 (b0 b1 : Int) : Good 1 [b0, b1] := ⟨rfl, fun h => by
  have h : (Km484Neutral.natural b0 32 && Km484Neutral.natural b1 32) = true := h
  simp only [Bool.and_eq_true] at h
  obtain ⟨h0, h1⟩ := h
  have a0 := nat_of h0
  have a1 := nat_of h1
  exact ⟨.sign b0.toNat b1.toNat, by simp only [enc, cs a0.1, cs a1.1], rfl, by unfold small enc; simp [cs a0.1, cs a1.1]; omega⟩⟩
theorem good_2 (b0 b1 : Int) : Good 2 [b0, b1] := ⟨rfl, fun h => by
  have h : (Km484Neutral.natural b0 32 && Km484Neutral.natural b1 32) = true := h
  simp only [Bool.and_eq_true] at h
  obtain ⟨h0, h1⟩ := h
  have a0 := nat_of h0
  have a1 := nat_of h1
  exact ⟨.leave b0.toNat b1.toNat, by simp only [enc, cs a0.1, cs a1.1], rfl, by unfold small enc; simp [cs a0.1, cs a1.1]; omega⟩⟩
theorem good_3 (b0 b1 : Int) : Good 3 [b0, b1] := ⟨rfl, fun h => by
  have h : (Km484Neutral.natural b0 32 && Km484Neutral.natural b1 32) = true := h
  simp only [Bool.and_eq_true] at h
  obtain ⟨h0, h1⟩ := h
  have a0 := nat_of h0
  have a1 := nat_of h1
  exact ⟨.owe b0.toNat b1.toNat, by simp only [enc, cs a0.1, cs a1.1], rfl, by unfold small enc; simp [cs a0.1, cs a1.1]; omega⟩⟩
theorem good_4 (b0 b1 : Int) : Good 4 [b0, b1] := ⟨rfl, fun h => by
  have h : (Km484Neutral.natural b0 32 && Km484Neutral.natural b1 32) = true := h
  simp only [Bool.and_eq_true] at h
  obtain ⟨h0, h1⟩ := h
  have a0 := nat_of h0
  have a1 := nat_of h1
  exact ⟨.pay b0.toNat b1.toNat, by simp only [enc, cs a0.1, cs a1.1], rfl, by unfold small enc; simp [cs a0.1, cs a1.1]; omega⟩⟩
theorem good_5 (b0 b1 b2 b3 : Int) : Good 5 [b0, b1, b2, b3] := ⟨rfl, fun h => by
  have h : (Km484Neutral.natural b0 32 && Km484Neutral.natural b1 32 && Km484Neutral.natural b2 32 && Km484Neutral.natural b3 32) = true := h
  simp only [Bool.and_eq_true] at h
  obtain ⟨⟨⟨h0, h1⟩, h2⟩, h3⟩ := h
  have a0 := nat_of h0
  have a1 := nat_of h1
  have a2 := nat_of h2
  have a3 := nat_of h3
  exact ⟨.part b0.toNat b1.toNat b2.toNat b3.toNat, by simp only [enc, cs a0.1, cs a1.1, cs a2.1, cs a3.1], rfl, by unfold small enc; simp [cs a0.1, cs a1.1, cs a2.1, cs a3.1]; omega⟩⟩
theorem good_6 (b0 b1 b2 : Int) : Good 6 [b0, b1, b2] := ⟨rfl, fun h => by
  have h : (Km484Neutral.natural b0 32 && Km484Neutral.natural b1 32 && Km484Neutral.natural b2 32) = true := h
  simp only [Bool.and_eq_true] at h
  obtain ⟨⟨h0, h1⟩, h2⟩ := h
  have a0 := nat_of h0
  have a1 := nat_of h1
  have a2 := nat_of h2
  exact ⟨.join b0.toNat b1.toNat b2.toNat, by simp only [enc, cs a0.1, cs a1.1, cs a2.1], rfl, by unfold small enc; simp [cs a0.1, cs a1.1, cs a2.1]; omega⟩⟩
theorem good_7 (b0 b1 : Int) : Good 7 [b0, b1] := ⟨rfl, fun h => by
  have h : (Km484Neutral.natural b0 32 && Km484Neutral.natural b1 32) = true := h
  simp only [Bool.and_eq_true] at h
  obtain ⟨h0, h1⟩ := h
  have a0 := nat_of h0
  have a1 := nat_of h1
  exact ⟨.follow b0.toNat b1.toNat, by simp only [enc, cs a0.1, cs a1.1], rfl, by unfold small enc; simp [cs a0.1, cs a1.1]; omega⟩⟩
theorem good_8 (b0 : Int) : Good 8 [b0] := ⟨rfl, fun h => by
  have h : (Km484Neutral.natural b0 32) = true := h
  have h0 := h
  have a0 := nat_of h0
  exact ⟨.treaties b0.toNat, by simp only [enc, cs a0.1], rfl, by unfold small enc; simp [cs a0.1]; omega⟩⟩
theorem good_9 (b0 : Int) : Good 9 [b0] := ⟨rfl, fun h => by
  have h : (Km484Neutral.natural b0 32) = true := h
  have h0 := h
  have a0 := nat_of h0
  exact ⟨.bound b0.toNat, by simp only [enc, cs a0.1], rfl, by unfold small enc; simp [cs a0.1]; omega⟩⟩
theorem good_10 (b0 b1 : Int) : Good 10 [b0, b1] := ⟨rfl, fun h => by
  have h : (Km484Neutral.natural b0 32 && Km484Neutral.natural b1 32) = true := h
  simp only [Bool.and_eq_true] at h
  obtain ⟨h0, h1⟩ := h
  have a0 := nat_of h0
  have a1 := nat_of h1
  exact ⟨.common b0.toNat b1.toNat, by simp only [enc, cs a0.1, cs a1.1], rfl, by unfold small enc; simp [cs a0.1, cs a1.1]; omega⟩⟩
theorem good_11 (b0 : Int) : Good 11 [b0] := ⟨rfl, fun h => by
  have h : (Km484Neutral.natural b0 32) = true := h
  have h0 := h
  have a0 := nat_of h0
  exact ⟨.debt b0.toNat, by simp only [enc, cs a0.1], rfl, by unfold small enc; simp [cs a0.1]; omega⟩⟩
theorem good_12 : Good 12 [] := ⟨rfl, fun _ => ⟨.total, rfl, rfl, by unfold small enc; simp⟩⟩
theorem good_13 (b0 : Int) : Good 13 [b0] := ⟨rfl, fun h => by
  have h : (Km484Neutral.natural b0 32) = true := h
  have h0 := h
  have a0 := nat_of h0
  exact ⟨.from_ b0.toNat, by simp only [enc, cs a0.1], rfl, by unfold small enc; simp [cs a0.1]; omega⟩⟩
theorem good_14 (b0 : Int) : Good 14 [b0] := ⟨rfl, fun h => by
  have h : (Km484Neutral.natural b0 32) = true := h
  have h0 := h
  have a0 := nat_of h0
  exact ⟨.line b0.toNat, by simp only [enc, cs a0.1], rfl, by unfold small enc; simp [cs a0.1]; omega⟩⟩
theorem good_15 (b0 : Int) : Good 15 [b0] := ⟨rfl, fun h => by
  have h : (Km484Neutral.natural b0 32) = true := h
  have h0 := h
  have a0 := nat_of h0
  exact ⟨.heirs b0.toNat, by simp only [enc, cs a0.1], rfl, by unfold small enc; simp [cs a0.1]; omega⟩⟩
theorem good_16 (b0 b1 : Int) : Good 16 [b0, b1] := ⟨rfl, fun h => by
  have h : (Km484Neutral.natural b0 32 && Km484Neutral.natural b1 32) = true := h
  simp only [Bool.and_eq_true] at h
  obtain ⟨h0, h1⟩ := h
  have a0 := nat_of h0
  have a1 := nat_of h1
  exact ⟨.kin b0.toNat b1.toNat, by simp only [enc, cs a0.1, cs a1.1], rfl, by unfold small enc; simp [cs a0.1, cs a1.1]; omega⟩⟩
theorem good_17 (b0 : Int) : Good 17 [b0] := ⟨rfl, fun h => by
  have h : (Km484Neutral.natural b0 32) = true := h
  have h0 := h
  have a0 := nat_of h0
  exact ⟨.whole b0.toNat, by simp only [enc, cs a0.1], rfl, by unfold small enc; simp [cs a0.1]; omega⟩⟩
theorem good_18 (b0 : Int) : Good 18 [b0] := ⟨rfl, fun h => by
  have h : (Km484Neutral.natural b0 32) = true := h
  have h0 := h
  have a0 := nat_of h0
  exact ⟨.could b0.toNat, by simp only [enc, cs a0.1], rfl, by unfold small enc; simp [cs a0.1]; omega⟩⟩
theorem good_19 (b0 b1 b2 : Int) : Good 19 [b0, b1, b2] := ⟨rfl, fun h => by
  have h : (Km484Neutral.natural b0 32 && Km484Neutral.natural b1 32 && Km484Neutral.natural b2 32) = true := h
  simp only [Bool.and_eq_true] at h
  obtain ⟨⟨h0, h1⟩, h2⟩ := h
  have a0 := nat_of h0
  have a1 := nat_of h1
  have a2 := nat_of h2
  exact ⟨.would b0.toNat b1.toNat b2.toNat, by simp only [enc, cs a0.1, cs a1.1, cs a2.1], rfl, by unfold small enc; simp [cs a0.1, cs a1.1, cs a2.1]; omega⟩⟩
theorem good_20 : Good 20 [] := ⟨rfl, fun _ => ⟨.back, rfl, rfl, by unfold small enc; simp⟩⟩
theorem good_21 : Good 21 [] := ⟨rfl, fun _ => ⟨.again, rfl, rfl, by unfold small enc; simp⟩⟩
theorem good_22 : Good 22 [] := ⟨rfl, fun _ => ⟨.state, rfl, rfl, by unfold small enc; simp⟩⟩
theorem shape_good {p : Int} {args : List Int} {k : Nat} (h : PyKm484.shape p = some (args.length, k)) : Good p args ∧ k = 0 := by
  unfold PyKm484.shape at h
  by_cases c0 : p = 0
  · rw [if_pos c0] at h
    obtain ⟨e, e0⟩ := Prod.mk.inj (Option.some.inj h)
    subst c0
    obtain ⟨b0, r0, e1, q0⟩ := len_cons (e.symm)
    obtain ⟨b1, r1, e2, q1⟩ := len_cons (q0)
    have z := len_nil (q1)
    subst z
    subst e2
    subst e1
    exact ⟨good_0 b0 b1, e0.symm⟩
  rw [if_neg c0] at h
  by_cases c1 : p = 1
  · rw [if_pos c1] at h
    obtain ⟨e, e0⟩ := Prod.mk.inj (Option.some.inj h)
    subst c1
    obtain ⟨b0, r0, e1, q0⟩ := len_cons (e.symm)
    obtain ⟨b1, r1, e2, q1⟩ := len_cons (q0)
    have z := len_nil (q1)
    subst z
    subst e2
    subst e1
    exact ⟨good_1 b0 b1, e0.symm⟩
  rw [if_neg c1] at h
  by_cases c2 : p = 2
  · rw [if_pos c2] at h
    obtain ⟨e, e0⟩ := Prod.mk.inj (Option.some.inj h)
    subst c2
    obtain ⟨b0, r0, e1, q0⟩ := len_cons (e.symm)
    obtain ⟨b1, r1, e2, q1⟩ := len_cons (q0)
    have z := len_nil (q1)
    subst z
    subst e2
    subst e1
    exact ⟨good_2 b0 b1, e0.symm⟩
  rw [if_neg c2] at h
  by_cases c3 : p = 3
  · rw [if_pos c3] at h
    obtain ⟨e, e0⟩ := Prod.mk.inj (Option.some.inj h)
    subst c3
    obtain ⟨b0, r0, e1, q0⟩ := len_cons (e.symm)
    obtain ⟨b1, r1, e2, q1⟩ := len_cons (q0)
    have z := len_nil (q1)
    subst z
    subst e2
    subst e1
    exact ⟨good_3 b0 b1, e0.symm⟩
  rw [if_neg c3] at h
  by_cases c4 : p = 4
  · rw [if_pos c4] at h
    obtain ⟨e, e0⟩ := Prod.mk.inj (Option.some.inj h)
    subst c4
    obtain ⟨b0, r0, e1, q0⟩ := len_cons (e.symm)
    obtain ⟨b1, r1, e2, q1⟩ := len_cons (q0)
    have z := len_nil (q1)
    subst z
    subst e2
    subst e1
    exact ⟨good_4 b0 b1, e0.symm⟩
  rw [if_neg c4] at h
  by_cases c5 : p = 5
  · rw [if_pos c5] at h
    obtain ⟨e, e0⟩ := Prod.mk.inj (Option.some.inj h)
    subst c5
    obtain ⟨b0, r0, e1, q0⟩ := len_cons (e.symm)
    obtain ⟨b1, r1, e2, q1⟩ := len_cons (q0)
    obtain ⟨b2, r2, e3, q2⟩ := len_cons (q1)
    obtain ⟨b3, r3, e4, q3⟩ := len_cons (q2)
    have z := len_nil (q3)
    subst z
    subst e4
    subst e3
    subst e2
    subst e1
    exact ⟨good_5 b0 b1 b2 b3, e0.symm⟩
  rw [if_neg c5] at h
  by_cases c6 : p = 6
  · rw [if_pos c6] at h
    obtain ⟨e, e0⟩ := Prod.mk.inj (Option.some.inj h)
    subst c6
    obtain ⟨b0, r0, e1, q0⟩ := len_cons (e.symm)
    obtain ⟨b1, r1, e2, q1⟩ := len_cons (q0)
    obtain ⟨b2, r2, e3, q2⟩ := len_cons (q1)
    have z := len_nil (q2)
    subst z
    subst e3
    subst e2
    subst e1
    exact ⟨good_6 b0 b1 b2, e0.symm⟩
  rw [if_neg c6] at h
  by_cases c7 : p = 7
  · rw [if_pos c7] at h
    obtain ⟨e, e0⟩ := Prod.mk.inj (Option.some.inj h)
    subst c7
    obtain ⟨b0, r0, e1, q0⟩ := len_cons (e.symm)
    obtain ⟨b1, r1, e2, q1⟩ := len_cons (q0)
    have z := len_nil (q1)
    subst z
    subst e2
    subst e1
    exact ⟨good_7 b0 b1, e0.symm⟩
  rw [if_neg c7] at h
  by_cases c8 : p = 8
  · rw [if_pos c8] at h
    obtain ⟨e, e0⟩ := Prod.mk.inj (Option.some.inj h)
    subst c8
    obtain ⟨b0, r0, e1, q0⟩ := len_cons (e.symm)
    have z := len_nil (q0)
    subst z
    subst e1
    exact ⟨good_8 b0, e0.symm⟩
  rw [if_neg c8] at h
  by_cases c9 : p = 9
  · rw [if_pos c9] at h
    obtain ⟨e, e0⟩ := Prod.mk.inj (Option.some.inj h)
    subst c9
    obtain ⟨b0, r0, e1, q0⟩ := len_cons (e.symm)
    have z := len_nil (q0)
    subst z
    subst e1
    exact ⟨good_9 b0, e0.symm⟩
  rw [if_neg c9] at h
  by_cases c10 : p = 10
  · rw [if_pos c10] at h
    obtain ⟨e, e0⟩ := Prod.mk.inj (Option.some.inj h)
    subst c10
    obtain ⟨b0, r0, e1, q0⟩ := len_cons (e.symm)
    obtain ⟨b1, r1, e2, q1⟩ := len_cons (q0)
    have z := len_nil (q1)
    subst z
    subst e2
    subst e1
    exact ⟨good_10 b0 b1, e0.symm⟩
  rw [if_neg c10] at h
  by_cases c11 : p = 11
  · rw [if_pos c11] at h
    obtain ⟨e, e0⟩ := Prod.mk.inj (Option.some.inj h)
    subst c11
    obtain ⟨b0, r0, e1, q0⟩ := len_cons (e.symm)
    have z := len_nil (q0)
    subst z
    subst e1
    exact ⟨good_11 b0, e0.symm⟩
  rw [if_neg c11] at h
  by_cases c12 : p = 12
  · rw [if_pos c12] at h
    obtain ⟨e, e0⟩ := Prod.mk.inj (Option.some.inj h)
    subst c12
    have z := len_nil (e.symm)
    subst z
    exact ⟨good_12, e0.symm⟩
  rw [if_neg c12] at h
  by_cases c13 : p = 13
  · rw [if_pos c13] at h
    obtain ⟨e, e0⟩ := Prod.mk.inj (Option.some.inj h)
    subst c13
    obtain ⟨b0, r0, e1, q0⟩ := len_cons (e.symm)
    have z := len_nil (q0)
    subst z
    subst e1
    exact ⟨good_13 b0, e0.symm⟩
  rw [if_neg c13] at h
  by_cases c14 : p = 14
  · rw [if_pos c14] at h
    obtain ⟨e, e0⟩ := Prod.mk.inj (Option.some.inj h)
    subst c14
    obtain ⟨b0, r0, e1, q0⟩ := len_cons (e.symm)
    have z := len_nil (q0)
    subst z
    subst e1
    exact ⟨good_14 b0, e0.symm⟩
  rw [if_neg c14] at h
  by_cases c15 : p = 15
  · rw [if_pos c15] at h
    obtain ⟨e, e0⟩ := Prod.mk.inj (Option.some.inj h)
    subst c15
    obtain ⟨b0, r0, e1, q0⟩ := len_cons (e.symm)
    have z := len_nil (q0)
    subst z
    subst e1
    exact ⟨good_15 b0, e0.symm⟩
  rw [if_neg c15] at h
  by_cases c16 : p = 16
  · rw [if_pos c16] at h
    obtain ⟨e, e0⟩ := Prod.mk.inj (Option.some.inj h)
    subst c16
    obtain ⟨b0, r0, e1, q0⟩ := len_cons (e.symm)
    obtain ⟨b1, r1, e2, q1⟩ := len_cons (q0)
    have z := len_nil (q1)
    subst z
    subst e2
    subst e1
    exact ⟨good_16 b0 b1, e0.symm⟩
  rw [if_neg c16] at h
  by_cases c17 : p = 17
  · rw [if_pos c17] at h
    obtain ⟨e, e0⟩ := Prod.mk.inj (Option.some.inj h)
    subst c17
    obtain ⟨b0, r0, e1, q0⟩ := len_cons (e.symm)
    have z := len_nil (q0)
    subst z
    subst e1
    exact ⟨good_17 b0, e0.symm⟩
  rw [if_neg c17] at h
  by_cases c18 : p = 18
  · rw [if_pos c18] at h
    obtain ⟨e, e0⟩ := Prod.mk.inj (Option.some.inj h)
    subst c18
    obtain ⟨b0, r0, e1, q0⟩ := len_cons (e.symm)
    have z := len_nil (q0)
    subst z
    subst e1
    exact ⟨good_18 b0, e0.symm⟩
  rw [if_neg c18] at h
  by_cases c19 : p = 19
  · rw [if_pos c19] at h
    obtain ⟨e, e0⟩ := Prod.mk.inj (Option.some.inj h)
    subst c19
    obtain ⟨b0, r0, e1, q0⟩ := len_cons (e.symm)
    obtain ⟨b1, r1, e2, q1⟩ := len_cons (q0)
    obtain ⟨b2, r2, e3, q2⟩ := len_cons (q1)
    have z := len_nil (q2)
    subst z
    subst e3
    subst e2
    subst e1
    exact ⟨good_19 b0 b1 b2, e0.symm⟩
  rw [if_neg c19] at h
  by_cases c20 : p = 20
  · rw [if_pos c20] at h
    obtain ⟨e, e0⟩ := Prod.mk.inj (Option.some.inj h)
    subst c20
    have z := len_nil (e.symm)
    subst z
    exact ⟨good_20, e0.symm⟩
  rw [if_neg c20] at h
  by_cases c21 : p = 21
  · rw [if_pos c21] at h
    obtain ⟨e, e0⟩ := Prod.mk.inj (Option.some.inj h)
    subst c21
    have z := len_nil (e.symm)
    subst z
    exact ⟨good_21, e0.symm⟩
  rw [if_neg c21] at h
  by_cases c22 : p = 22
  · rw [if_pos c22] at h
    obtain ⟨e, e0⟩ := Prod.mk.inj (Option.some.inj h)
    subst c22
    have z := len_nil (e.symm)
    subst z
    exact ⟨good_22, e0.symm⟩
  rw [if_neg c22] at h
  cases h
theorem call_good {c : List (List Int)} (h : PyFlat.okCall PyKm484.shape c) : ∃ p args, c = [p :: args] ∧ Good p args := by
  obtain ⟨p, a, xs, e, hs⟩ := h
  obtain ⟨g, z⟩ := shape_good hs
  have z := List.length_eq_zero_iff.mp z
  subst z
  exact ⟨p, a, e, g⟩
theorem asked_enc {c : List (List Int)} (hg : PyFlat.okCall PyKm484.shape c) (h : Km484Neutral.asked1 c = true) : ∃ x, c = [enc x] ∧ Km484Neutral.callOf c = some x ∧ small x := by
  obtain ⟨p, args, rfl, g⟩ := call_good hg
  exact g.2 h
theorem whole_id {c : List (List Int)} (hg : PyFlat.okCall PyKm484.shape c) : PyKm484.whole c = c := by
  obtain ⟨p, args, rfl, g⟩ := call_good hg
  exact g.1
theorem asked_all : ∀ {cs : List (List (List Int))}, (∀ c ∈ cs, PyFlat.okCall PyKm484.shape c) → (∀ c ∈ cs, Km484Neutral.asked1 c = true) → ∃ xs : List Call, cs = xs.map (fun x => [enc x]) ∧ (∀ x ∈ xs, small x) ∧ ∀ x ∈ xs, Km484Neutral.callOf [enc x] = some x
  | [], _, _ => ⟨[], rfl, by simp, by simp⟩
  | c :: cs, hg, h => by
    obtain ⟨x, e, e2, hx⟩ := asked_enc (hg c List.mem_cons_self) (h c List.mem_cons_self)
    obtain ⟨xs, e3, h3, h4⟩ := asked_all (cs := cs) (fun d hd => hg d (List.mem_cons_of_mem _ hd)) fun d hd => h d (List.mem_cons_of_mem _ hd)
    refine ⟨x :: xs, by rw [List.map_cons, ← e, ← e3], fun y hy => ?_, fun y hy => ?_⟩
    · rcases List.mem_cons.mp hy with z | z
      · rw [z]; exact hx
      · exact h3 y z
    · rcases List.mem_cons.mp hy with z | z
      · rw [z, ← e]; exact e2
      · exact h4 y z
theorem put_enc : ∀ xs : List Call, PyFlat.put (xs.map fun x => [enc x]) = xs.flatMap enc
  | [] => rfl
  | x :: xs => by
    show PyFlat.put1 [enc x] ++ PyFlat.put (xs.map fun x => [enc x]) = _
    rw [put_enc xs, List.flatMap_cons]
    show (enc x ++ []) ++ _ = _
    rw [List.append_nil]
/-- the desk ahead of a start -/
def blank : Desk := ⟨⟨0, []⟩, [], []⟩
/-- one call on what is held -/
def stepC (s : Option Desk) (x : Call) : Option Desk × List Int := Km484Neutral.step s [enc x]
def runC : Option Desk → List Call → List Int
  | _, [] => []
  | s, x :: xs => ((stepC s x).2.length : Int) :: ((stepC s x).2 ++ runC (stepC s x).1 xs)
def mayC : Option Desk → List Call → Prop
  | _, [] => True
  | s, x :: xs => (stepC s x).2 ≠ [] ∧ mayC (stepC s x).1 xs
theorem told_run : ∀ (s : Option Desk) (xs : List Call), PyFlat.told (PyFlat.played Km484Neutral.step s (xs.map fun x => [enc x])) = runC s xs
  | _, [] => rfl
  | s, x :: xs => by
    have ih := told_run (stepC s x).1 xs
    show PyFlat.told ((stepC s x).2 :: PyFlat.played Km484Neutral.step (stepC s x).1 (xs.map fun x => [enc x])) = _
    unfold PyFlat.told at ih ⊢
    rw [List.flatMap_cons, ih]
    rfl
theorem may_run : ∀ (s : Option Desk) (xs : List Call), Km484Neutral.may s (xs.map fun x => [enc x]) = true → mayC s xs
  | _, [], _ => True.intro
  | s, x :: xs, h => by
    have h : (!((stepC s x).2.isEmpty) && Km484Neutral.may (stepC s x).1 (xs.map fun x => [enc x])) = true := h
    rw [Bool.and_eq_true] at h
    refine ⟨fun e => ?_, may_run _ xs h.2⟩
    rw [e] at h
    exact absurd h.1 (by simp)
/-- THE VIEW: what may be handed in is calls, one behind another; what is due is what they answer -/
theorem view {ns : List Int} (h : PyKm484.answers_asked ns = true) : ∃ xs : List Call, ns = xs.flatMap enc ∧ xs.length ≤ 1000 ∧ (∀ x ∈ xs, small x) ∧ (∀ x ∈ xs, Km484Neutral.callOf [enc x] = some x) ∧ mayC none xs ∧ PyKm484.answers ns = runC none xs := by
  unfold PyKm484.answers_asked at h
  cases e : PyFlat.calls PyKm484.shape ns.length ns with
  | none => rw [e] at h; cases h
  | some raw =>
    rw [e] at h
    simp only [Bool.and_eq_true] at h
    obtain ⟨⟨⟨⟨_, h1⟩, _⟩, h2⟩, _⟩ := h
    have p := PyFlat.put_calls _ _ _ e
    have em : raw.map PyKm484.whole = raw := by
      refine (List.map_congr_left (g := id) fun c hc => ?_).trans (List.map_id _)
      exact whole_id (p.2 c hc)
    rw [em] at h2
    unfold Km484Neutral.asked at h2
    simp only [Bool.and_eq_true] at h2
    obtain ⟨_, _, h3, h4⟩ := h2
    obtain ⟨xs, ex, hs, hc⟩ := asked_all p.2 fun c hc => List.all_eq_true.mp h3 c hc
    have lenq : raw.length ≤ 1000 := by unfold PyFlat.atMost at h1; simpa using h1
    refine ⟨xs, ?_, ?_, hs, hc, ?_, ?_⟩
    · rw [← put_enc, ← ex]
      exact p.1
    · rw [ex, List.length_map] at lenq
      exact lenq
    · exact may_run none xs (by rw [← ex]; exact h4)
    · unfold PyKm484.answers PyKm484.calls
      rw [e]
      show PyFlat.told (PyFlat.played Km484Neutral.step Km484Neutral.start (raw.map PyKm484.whole)) = _
      rw [em, ex]
      exact told_run none xs
/-- what stands for what is held -/
def desk (s : Option Desk) : Desk := s.getD blank
def okS (s : Option Desk) : Prop := ∀ d, s = some d → DeskOk d
theorem fresh_ok : DeskOk (fresh 1 1) := ⟨opened_ok (by decide) (by decide) (by decide), fun x hx => (by cases hx), fun x hx => (by cases hx), by show 0 + 0 ≤ 20; decide⟩
theorem step_some {d : Desk} {x : Call} (hx : Km484Neutral.callOf [enc x] = some x) : stepC (some d) x = (some (act d x).1, Km484Neutral.told (act d x).2) := by
  unfold stepC Km484Neutral.step
  rw [hx]
theorem step_none {x : Call} (hx : Km484Neutral.callOf [enc x] = some x) : stepC none x = if Km484Neutral.isStart x then
        (if (Km484Neutral.told (Km484.act (Km484.fresh 1 1) x).2).headD 0 < 0 then none else some (Km484.act (Km484.fresh 1 1) x).1, Km484Neutral.told (Km484.act (Km484.fresh 1 1) x).2)
      else (none, []) := by
  unfold stepC Km484Neutral.step
  rw [hx]
theorem step_desk {s : Option Desk} {x : Call} (hx : Km484Neutral.callOf [enc x] = some x) (h : (stepC s x).2 ≠ []) :
    (stepC s x).2 = Km484Neutral.told (act (desk s) x).2 ∧ desk (stepC s x).1 = (act (desk s) x).1 ∧ ((∃ d, s = some d) ∨ ∃ n t, x = .start n t) ∧ (okS s → okS (stepC s x).1) := by
  cases s with
  | some d =>
    rw [step_some hx]
    refine ⟨rfl, rfl, .inl ⟨d, rfl⟩, fun ok d' e' => ?_⟩
    cases e'
    exact act_ok (ok d rfl) x
  | none =>
    have e := step_none hx
    cases x with
    | start n t =>
      rw [if_pos (show Km484Neutral.isStart (.start n t) = true from rfl)] at e
      have ok1 := act_ok fresh_ok (.start n t)
      by_cases hc : n = 0 ∨ FIRST < n ∨ t = 0 ∨ TREATIES < t
      · have e1 : ∀ D, act D (.start n t) = (D, only (-22)) := fun D => if_pos hc
        rw [e1] at e
        have e : stepC none (.start n t) = (none, [-22]) := e
        rw [e, e1]
        exact ⟨rfl, rfl, .inr ⟨n, t, rfl⟩, fun _ d e' => (by cases e')⟩
      · have e1 : ∀ D, act D (.start n t) = (⟨opened n t, [], []⟩, only 0) := fun D => if_neg hc
        rw [e1] at e ok1
        have e : stepC none (.start n t) = (some ⟨opened n t, [], []⟩, [0]) := e
        rw [e, e1]
        refine ⟨rfl, rfl, .inr ⟨n, t, rfl⟩, fun _ d e' => ?_⟩
        cases e'
        exact ok1
    | _ =>
      exfalso
      apply h
      rw [e]
      rfl
end Sh
set_option Elab.async false
set_option linter.all false
set_option maxRecDepth 100000
/-! The record and its states, as they stand in the heap. -/
namespace Sh
open PySem PySem.Spec PyProof.Rows L2
open Km484 (State_ Book Desk Call)
def ov : Option Nat → V
  | none => .non
  | some k => .int k
theorem ov_some (k : Nat) : ov (some k) = .int k := rfl
theorem ov_is (o : Option Nat) : decide (ov o = .non) = o.isNone := by cases o <;> simp [ov]
theorem ov_not (o : Option Nat) : (!decide (ov o = .non)) = o.isSome := by cases o <;> simp [ov]
def flS (s : State_) : List (Str × V) := fl_State (.int s.bound) (.int s.free) (.int s.owes) (ov s.parent) (ov s.taken)
theorem lkS1 (s : State_) : (flS s).lookup ("is_there" : Str) = none := rfl
theorem lkS2 (s : State_) : (flS s).lookup ("vanish_into" : Str) = none := rfl
theorem lkS3 (s : State_) : (flS s).lookup ("copied" : Str) = none := rfl
def StAt (n : Nm) (H : Hp) (a : Addr) (s : State_) : Prop := ∃ dx, H a = some (.ins n.c_State dx (flS s))
/-! ### what stays -/
def Ext (H H' : Hp) : Prop := ∀ b o, H b = some o → H' b = some o
theorem Ext.refl (H : Hp) : Ext H H := fun _ _ h => h
theorem Ext.trans {H H1 H2 : Hp} (x : Ext H H1) (y : Ext H1 H2) : Ext H H2 := fun b o h => y b o (x b o h)
theorem Ext.new {H : Hp} {p : Addr} {o : HO} (h : H p = none) : Ext H (upd H p o) := fun b u e => upd_of h e
theorem Ext.none {H H' : Hp} (x : Ext H H') {b : Addr} (h : H' b = none) : H b = none := by
  cases e : H b with
  | none => rfl
  | some o => rw [x b o e] at h; cases h
structure Fr (F : List Addr) (H : Hp) (F' : List Addr) (H' : Hp) : Prop where
  new : ∀ b ∈ F', b ∈ F ∨ H b = none
  old : ∀ b o, H b = some o → b ∉ F → H' b = some o
  dom : ∀ b, H' b = none → H b = none
theorem Fr.of_ext {F : List Addr} {H H' : Hp} (x : Ext H H') : Fr F H F H' := ⟨fun _ h => .inl h, fun b o h _ => x b o h, fun b h => x.none h⟩
theorem Fr.refl (F : List Addr) (H : Hp) : Fr F H F H := .of_ext (.refl H)
theorem Fr.upd {F : List Addr} {H : Hp} {a : Addr} {o : HO} (h : a ∈ F) : Fr F H F (upd H a o) := by
  refine ⟨fun _ h => .inl h, fun b u e hb => ?_, fun b e => ?_⟩
  · rw [upd_ne (fun z : b = a => hb (z ▸ h))]
    exact e
  · by_cases z : b = a
    · subst z; rw [upd_same] at e; cases e
    · rw [upd_ne z] at e; exact e
theorem Fr.trans {F F1 F2 : List Addr} {H H1 H2 : Hp} (x : Fr F H F1 H1) (y : Fr F1 H1 F2 H2) : Fr F H F2 H2 := by
  refine ⟨fun b hb => ?_, fun b o e hb => ?_, fun b e => x.dom b (y.dom b e)⟩
  · rcases y.new b hb with h | h
    · exact x.new b h
    · exact .inr (x.dom b h)
  · refine y.old b o (x.old b o e hb) fun h => ?_
    rcases x.new b h with z | z
    · exact hb z
    · rw [e] at z; cases z
theorem Fr.ext {F F1 : List Addr} {H H1 H2 : Hp} (x : Fr F H F1 H1) (y : Ext H1 H2) : Fr F H F1 H2 := x.trans (.of_ext y)
theorem Ext.fr {F F1 : List Addr} {H H1 H2 : Hp} (x : Ext H H1) (y : Fr F H1 F1 H2) : Fr F H F1 H2 := (Fr.of_ext x).trans y
/-! ### a list of states -/
abbrev Cell := Addr × List Addr
def foot (c : Cell) : List Addr := c.1 :: c.2
structure Snap (n : Nm) (H : Hp) (c : Cell) (ss : List State_) : Prop where
  lst : H c.1 = some (.lst (c.2.map V.ref))
  len : c.2.length = ss.length
  at_ : ∀ (i : Nat) (a : Addr), c.2[i]? = some a → ∃ s, ss[i]? = some s ∧ StAt n H a s
theorem Snap.mono {n : Nm} {H H' : Hp} {c : Cell} {ss : List State_} (S : Snap n H c ss) (m : ∀ x ∈ foot c, ∀ o, H x = some o → H' x = some o) : Snap n H' c ss := by
  refine ⟨m _ List.mem_cons_self _ S.lst, S.len, fun i a h => ?_⟩
  obtain ⟨s, e, dx, ha⟩ := S.at_ i a h
  exact ⟨s, e, dx, m a (List.mem_cons_of_mem _ (List.mem_of_getElem? h)) _ ha⟩
theorem Snap.has {n : Nm} {H : Hp} {c : Cell} {ss : List State_} (S : Snap n H c ss) {x : Addr} (hx : x ∈ foot c) : ∃ o, H x = some o := by
  rcases List.mem_cons.mp hx with e | e
  · rw [e]; exact ⟨_, S.lst⟩
  · obtain ⟨i, h⟩ := List.mem_iff_getElem?.mp e
    obtain ⟨s, _, dx, ha⟩ := S.at_ i x h
    exact ⟨_, ha⟩
theorem Snap.get {n : Nm} {H : Hp} {c : Cell} {ss : List State_} (S : Snap n H c ss) {i : Nat} {s : State_} (h : ss[i]? = some s) : ∃ a dx, c.2[i]? = some a ∧ H a = some (.ins n.c_State dx (flS s)) := by
  have hi : i < c.2.length := by rw [S.len]; exact (List.getElem?_eq_some_iff.mp h).1
  have e := List.getElem?_eq_getElem hi
  obtain ⟨s', e', dx, ha⟩ := S.at_ i _ e
  rw [h] at e'
  cases e'
  exact ⟨_, dx, e, ha⟩
structure RecAt (n : Nm) (H : Hp) (r le lu : Addr) (c : Cell) (b : Book) : Prop where
  rec_ : ∃ dr, H r = some (.ins n.c_Record dr (fl_Record (.int b.t) (.ref c.1) (.ref le) (.ref lu)))
  now : Snap n H c b.states
  nd : (r :: foot c).Nodup
section
variable {n : Nm} {H H' : Hp} {r le lu : Addr} {c : Cell} {b : Book}
theorem RecAt.mono (R : RecAt n H r le lu c b) (m : ∀ x ∈ r :: foot c, ∀ o, H x = some o → H' x = some o) : RecAt n H' r le lu c b := by
  obtain ⟨dr, h⟩ := R.rec_
  exact ⟨⟨dr, m r List.mem_cons_self _ h⟩, R.now.mono fun x hx => m x (List.mem_cons_of_mem _ hx), R.nd⟩
theorem RecAt.ext (R : RecAt n H r le lu c b) (x : Ext H H') : RecAt n H' r le lu c b := R.mono fun y _ o h => x y o h
theorem RecAt.has (R : RecAt n H r le lu c b) {x : Addr} (hx : x ∈ r :: foot c) : ∃ o, H x = some o := by
  rcases List.mem_cons.mp hx with e | e
  · rw [e]
    obtain ⟨dr, h⟩ := R.rec_
    exact ⟨_, h⟩
  · exact R.now.has e
theorem RecAt.fresh (R : RecAt n H r le lu c b) {p : Addr} (h : H p = none) : p ∉ r :: foot c := fun hx => by
  obtain ⟨o, e⟩ := R.has hx
  rw [h] at e; cases e
theorem RecAt.put (R : RecAt n H r le lu c b) {i : Nat} {a : Addr} (h : c.2[i]? = some a) (s' : State_) (dx : Addr) : RecAt n (upd H a (.ins n.c_State dx (flS s'))) r le lu c (b.set i s') := by
  have nd := R.nd
  unfold foot at nd
  rw [List.nodup_cons, List.nodup_cons] at nd
  obtain ⟨h1, h2, h3⟩ := nd
  have ma := List.mem_of_getElem? h
  have hi : i < c.2.length := (List.getElem?_eq_some_iff.mp h).1
  obtain ⟨dr, hr⟩ := R.rec_
  refine ⟨⟨dr, ?_⟩, ⟨?_, ?_, fun j x hj => ?_⟩, R.nd⟩
  · rw [upd_ne (fun z : r = a => h1 (z ▸ List.mem_cons_of_mem _ ma))]
    exact hr
  · rw [upd_ne (fun z : c.1 = a => h2 (z ▸ ma))]
    exact R.now.lst
  · show _ = (b.states.set i s').length
    rw [List.length_set]
    exact R.now.len
  · show ∃ s, (b.states.set i s')[j]? = _ ∧ _
    rw [List.getElem?_set]
    by_cases e : i = j
    · subst e
      rw [h] at hj
      cases hj
      rw [if_pos rfl, if_pos (by rw [← R.now.len]; exact hi)]
      exact ⟨s', rfl, dx, upd_same⟩
    · rw [if_neg e]
      obtain ⟨s, e1, dx1, e2⟩ := R.now.at_ j x hj
      refine ⟨s, e1, dx1, ?_⟩
      rw [upd_ne fun z => e ((List.getElem?_inj hi h3).mp (by rw [h, hj, z]))]
      exact e2
theorem RecAt.mem (R : RecAt n H r le lu c b) {i : Nat} {a : Addr} (h : c.2[i]? = some a) : a ∈ r :: foot c := List.mem_cons_of_mem _ (List.mem_cons_of_mem _ (List.mem_of_getElem? h))
/-- a new state behind all others -/
theorem RecAt.grow (R : RecAt n H r le lu c b) {q dq : Addr} (hq : H q = none) (hdq : H dq = none) (s : State_) :
    RecAt n (upd (upd (upd H dq (.own q)) q (.ins n.c_State dq (flS s))) c.1 (.lst ((c.2 ++ [q]).map V.ref))) r le lu (c.1, c.2 ++ [q]) ⟨b.t, b.states ++ [s]⟩ ∧
    Fr (r :: foot c) H (r :: foot (c.1, c.2 ++ [q])) (upd (upd (upd H dq (.own q)) q (.ins n.c_State dq (flS s))) c.1 (.lst ((c.2 ++ [q]).map V.ref))) := by
  have fq := R.fresh hq
  have fd := R.fresh hdq
  have nd := R.nd
  unfold foot at nd
  rw [List.nodup_cons, List.nodup_cons] at nd
  obtain ⟨h1, h2, h3⟩ := nd
  have same : ∀ x ∈ r :: foot c, x ≠ c.1 → ∀ o, H x = some o → upd (upd (upd H dq (.own q)) q (.ins n.c_State dq (flS s))) c.1 (.lst ((c.2 ++ [q]).map V.ref)) x = some o := fun x hx hc o e => by
    rw [upd_ne hc, upd_ne (fun z : x = q => fq (z ▸ hx)), upd_ne (fun z : x = dq => fd (z ▸ hx))]
    exact e
  have qc : q ≠ c.1 := fun z => fq (by rw [z]; exact List.mem_cons_of_mem _ List.mem_cons_self)
  obtain ⟨dr, hr⟩ := R.rec_
  refine ⟨⟨⟨dr, same r List.mem_cons_self (fun z => h1 (z ▸ List.mem_cons_self)) _ hr⟩, ⟨upd_same, ?_, fun j x hj => ?_⟩, ?_⟩, ⟨fun x hx => ?_, fun x o e hx => ?_, fun x e => ?_⟩⟩
  · show (c.2 ++ [q]).length = (b.states ++ [s]).length
    rw [List.length_append, List.length_append, R.now.len]
    rfl
  · have hj : (c.2 ++ [q])[j]? = _ := hj
    show ∃ s', (b.states ++ [s])[j]? = _ ∧ _
    rw [List.getElem?_append] at hj ⊢
    rw [← R.now.len]
    by_cases e : j < c.2.length
    · rw [if_pos e] at hj ⊢
      obtain ⟨s1, e1, dx1, e2⟩ := R.now.at_ j x hj
      have mx := List.mem_of_getElem? hj
      exact ⟨s1, e1, dx1, same x (List.mem_cons_of_mem _ (List.mem_cons_of_mem _ mx)) (fun z => h2 (z ▸ mx)) _ e2⟩
    · rw [if_neg e] at hj ⊢
      have e0 : j - c.2.length = 0 := by
        have := (List.getElem?_eq_some_iff.mp hj).1
        simp at this
        omega
      rw [e0] at hj ⊢
      cases hj
      exact ⟨s, rfl, dq, by rw [upd_ne qc, upd_same]⟩
  · show (r :: c.1 :: (c.2 ++ [q])).Nodup
    have p : (q :: r :: c.1 :: c.2).Perm (r :: c.1 :: (c.2 ++ [q])) := (List.perm_append_singleton q (r :: c.1 :: c.2)).symm
    exact (p.nodup_iff).mp (List.nodup_cons.mpr ⟨fq, R.nd⟩)
  · have hx : x ∈ r :: c.1 :: (c.2 ++ [q]) := hx
    simp only [List.mem_cons, List.mem_append, List.not_mem_nil, or_false] at hx
    rcases hx with z | z | z | z
    · rw [z]; exact .inl List.mem_cons_self
    · rw [z]; exact .inl (List.mem_cons_of_mem _ List.mem_cons_self)
    · exact .inl (List.mem_cons_of_mem _ (List.mem_cons_of_mem _ z))
    · rw [z]; exact .inr hq
  · rw [upd_ne (fun z : x = c.1 => hx (z ▸ List.mem_cons_of_mem _ List.mem_cons_self)), upd_ne (ne_of_none e hq), upd_ne (ne_of_none e hdq)]
    exact e
  · by_cases z1 : x = c.1
    · subst z1; rw [upd_same] at e; cases e
    · rw [upd_ne z1] at e
      by_cases z2 : x = q
      · subst z2; rw [upd_same] at e; cases e
      · rw [upd_ne z2] at e
        by_cases z3 : x = dq
        · subst z3; rw [upd_same] at e; cases e
        · rw [upd_ne z3] at e; exact e
end
/-! ### the desk -/
structure Pl where
  r : Addr
  le : Addr
  lu : Addr
  c : Cell
  ps : List Cell
  fs : List Cell
def Pl.foot (A : Pl) : List Addr := (A.r :: Sh.foot A.c) ++ (A.le :: A.lu :: (A.ps.flatMap Sh.foot ++ A.fs.flatMap Sh.foot))
def Sn (n : Nm) (H : Hp) : List Cell → List Book → Prop
  | [], [] => True
  | q :: qs, b :: bs => Snap n H q b.states ∧ Sn n H qs bs
  | [], _ :: _ => False
  | _ :: _, [] => False
theorem Sn.mono {n : Nm} {H H' : Hp} : ∀ {qs : List Cell} {bs : List Book}, Sn n H qs bs → (∀ x ∈ qs.flatMap foot, ∀ o, H x = some o → H' x = some o) → Sn n H' qs bs
  | [], [], _, _ => True.intro
  | q :: qs, b :: bs, ⟨h1, h2⟩, m => ⟨h1.mono fun x hx => m x (by rw [List.flatMap_cons]; exact List.mem_append_left _ hx), Sn.mono h2 fun x hx => m x (by rw [List.flatMap_cons]; exact List.mem_append_right _ hx)⟩
theorem Sn.len {n : Nm} {H : Hp} : ∀ {qs : List Cell} {bs : List Book}, Sn n H qs bs → qs.length = bs.length
  | [], [], _ => rfl
  | q :: qs, b :: bs, ⟨_, h2⟩ => by rw [List.length_cons, List.length_cons, Sn.len h2]
theorem Sn.take {n : Nm} {H : Hp} : ∀ (k : Nat) {qs : List Cell} {bs : List Book}, Sn n H qs bs → Sn n H (qs.take k) (bs.take k)
  | 0, _, _, _ => True.intro
  | _ + 1, [], [], _ => True.intro
  | k + 1, q :: qs, b :: bs, ⟨h1, h2⟩ => ⟨h1, Sn.take k h2⟩
theorem Sn.has {n : Nm} {H : Hp} : ∀ {qs : List Cell} {bs : List Book}, Sn n H qs bs → ∀ {x : Addr}, x ∈ qs.flatMap foot → ∃ o, H x = some o
  | [], [], _, _, hx => by cases hx
  | q :: qs, b :: bs, ⟨h1, h2⟩, x, hx => by
    rw [List.flatMap_cons] at hx
    rcases List.mem_append.mp hx with z | z
    · exact h1.has z
    · exact Sn.has h2 z
structure DeskAt (n : Nm) (H : Hp) (A : Pl) (d : Desk) : Prop where
  rec_ : RecAt n H A.r A.le A.lu A.c d.now
  le_ : H A.le = some (.lst (A.ps.reverse.map fun q => V.ref q.1))
  lu_ : H A.lu = some (.lst (A.fs.reverse.map fun q => V.ref q.1))
  past : Sn n H A.ps d.past
  fut : Sn n H A.fs d.future
  nd : A.foot.Nodup
section
variable {n : Nm} {H H' : Hp} {A : Pl} {d : Desk}
theorem mem_rec {x : Addr} (h : x ∈ A.r :: Sh.foot A.c) : x ∈ A.foot := List.mem_append_left _ h
theorem mem_le : A.le ∈ A.foot := List.mem_append_right _ List.mem_cons_self
theorem mem_lu : A.lu ∈ A.foot := List.mem_append_right _ (List.mem_cons_of_mem _ List.mem_cons_self)
theorem mem_ps {x : Addr} (h : x ∈ A.ps.flatMap Sh.foot) : x ∈ A.foot := List.mem_append_right _ (List.mem_cons_of_mem _ (List.mem_cons_of_mem _ (List.mem_append_left _ h)))
theorem mem_fs {x : Addr} (h : x ∈ A.fs.flatMap Sh.foot) : x ∈ A.foot := List.mem_append_right _ (List.mem_cons_of_mem _ (List.mem_cons_of_mem _ (List.mem_append_right _ h)))
theorem DeskAt.mono (D : DeskAt n H A d) (m : ∀ x ∈ A.foot, ∀ o, H x = some o → H' x = some o) : DeskAt n H' A d :=
  ⟨D.rec_.mono fun x hx => m x (mem_rec hx), m _ mem_le _ D.le_, m _ mem_lu _ D.lu_, D.past.mono fun x hx => m x (mem_ps hx), D.fut.mono fun x hx => m x (mem_fs hx), D.nd⟩
theorem DeskAt.ext (D : DeskAt n H A d) (x : Ext H H') : DeskAt n H' A d := D.mono fun y _ o h => x y o h
theorem DeskAt.has (D : DeskAt n H A d) {x : Addr} (hx : x ∈ A.foot) : ∃ o, H x = some o := by
  rcases List.mem_append.mp hx with z | z
  · exact D.rec_.has z
  · rcases List.mem_cons.mp z with z | z
    · rw [z]; exact ⟨_, D.le_⟩
    · rcases List.mem_cons.mp z with z | z
      · rw [z]; exact ⟨_, D.lu_⟩
      · rcases List.mem_append.mp z with z | z
        · exact D.past.has z
        · exact D.fut.has z
theorem DeskAt.fresh (D : DeskAt n H A d) {p : Addr} (h : H p = none) : p ∉ A.foot := fun hx => by
  obtain ⟨o, e⟩ := D.has hx
  rw [h] at e; cases e
/-- the book now changes; what's kept stays -/
theorem DeskAt.change (D : DeskAt n H A d) {c' : Cell} {b' : Book} (f : Fr (A.r :: Sh.foot A.c) H (A.r :: Sh.foot c') H') (R : RecAt n H' A.r A.le A.lu c' b') :
    DeskAt n H' { A with c := c' } ⟨b', d.past, d.future⟩ ∧ Fr A.foot H ({ A with c := c' } : Pl).foot H' := by
  have nd := D.nd
  unfold Pl.foot at nd
  rw [List.nodup_append] at nd
  obtain ⟨h1, h2, h3⟩ := nd
  have keep : ∀ x ∈ A.le :: A.lu :: (A.ps.flatMap Sh.foot ++ A.fs.flatMap Sh.foot), ∀ o, H x = some o → H' x = some o := fun x hx o e => f.old x o e fun z => h3 x z x hx rfl
  refine ⟨⟨R, keep _ List.mem_cons_self _ D.le_, keep _ (List.mem_cons_of_mem _ List.mem_cons_self) _ D.lu_, D.past.mono fun x hx => keep x (List.mem_cons_of_mem _ (List.mem_cons_of_mem _ (List.mem_append_left _ hx))), D.fut.mono fun x hx => keep x (List.mem_cons_of_mem _ (List.mem_cons_of_mem _ (List.mem_append_right _ hx))), ?_⟩, ⟨fun x hx => ?_, fun x o e hx => ?_, f.dom⟩⟩
  · show ((A.r :: Sh.foot c') ++ _).Nodup
    refine List.nodup_append.mpr ⟨R.nd, h2, fun x hx y hy z => ?_⟩
    subst z
    rcases f.new x hx with z | z
    · exact h3 x z x hy rfl
    · exact absurd (List.mem_append_right _ hy) (D.fresh z)
  · rcases List.mem_append.mp hx with z | z
    · rcases f.new x z with z | z
      · exact .inl (mem_rec z)
      · exact .inr z
    · exact .inl (List.mem_append_right _ z)
  · exact f.old x o e fun z => hx (mem_rec z)
end
theorem last_rev {α β : Type} (f : α → β) (k : α) (l : List α) : ((k :: l).reverse.map f)[((k :: l).reverse.map f).length - 1]? = some (f k) ∧ ((k :: l).reverse.map f).dropLast = l.reverse.map f := by
  rw [List.reverse_cons, List.map_append]
  show (l.reverse.map f ++ [f k])[(l.reverse.map f ++ [f k]).length - 1]? = _ ∧ (l.reverse.map f ++ [f k]).dropLast = _
  rw [List.dropLast_concat, List.length_append]
  simp
theorem snoc_rev {α β : Type} (f : α → β) (k : α) (l : List α) : l.reverse.map f ++ [f k] = (k :: l).reverse.map f := by
  rw [List.reverse_cons, List.map_append]
  rfl
theorem tail_rev {α β : Type} (f : α → β) {l : List α} {m : Nat} (h : l.length = m + 1) : (l.reverse.map f).eraseIdx 0 = (l.take m).reverse.map f := by
  rw [List.eraseIdx_zero, ← List.map_tail, List.tail_reverse, List.dropLast_eq_take, h]
  rfl
theorem disjoint_flat {l : List Cell} {k : Nat} : (l.take k).flatMap foot |>.Sublist (l.flatMap foot) := by
  have e : l.flatMap foot = (l.take k).flatMap foot ++ (l.drop k).flatMap foot := by
    rw [← List.flatMap_append, List.take_append_drop]
  rw [e]
  exact List.sublist_append_left _ _
section
variable {n : Nm} {H H' : Hp} {A : Pl} {d : Desk}
/-- another change stands now -/
theorem DeskAt.keep {now : Book} (D : DeskAt n H A d) {cb : Cell} (S : Snap n H cb now.states) (hb : (foot cb).Nodup) (hd : ∀ x ∈ foot cb, x ∉ A.foot) {u dr : Addr} (hu : H u = none)
    (e1 : H' A.r = some (.ins n.c_Record dr (fl_Record (.int d.now.t) (.ref A.c.1) (.ref A.le) (.ref u)))) (e2 : H' A.le = some (.lst (((cb :: A.ps).take 20).reverse.map fun q => V.ref q.1))) (e3 : H' u = some (.lst []))
    (e4 : ∀ x, x ≠ A.r → x ≠ A.le → x ≠ u → H' x = H x) :
    DeskAt n H' ⟨A.r, A.le, u, A.c, (cb :: A.ps).take 20, []⟩ ⟨d.now, (now :: d.past).take 20, []⟩ ∧ Fr (A.foot ++ foot cb) H (Pl.foot ⟨A.r, A.le, u, A.c, (cb :: A.ps).take 20, []⟩) H' := by
  have nd := D.nd
  have fu := D.fresh hu
  have fub : u ∉ foot cb := fun z => by
    obtain ⟨o, e⟩ := S.has z
    rw [hu] at e; cases e
  unfold Pl.foot at nd
  rw [List.nodup_append, List.nodup_cons, List.nodup_cons, List.nodup_cons, List.nodup_append] at nd
  obtain ⟨⟨h1, h2⟩, ⟨h3, h4, h5, h6, h7⟩, h8⟩ := nd
  have nr : ∀ x ∈ A.le :: A.lu :: (A.ps.flatMap Sh.foot ++ A.fs.flatMap Sh.foot), x ≠ A.r := fun x hx z => h8 A.r List.mem_cons_self x hx z.symm
  have nle : ∀ x ∈ A.r :: Sh.foot A.c, x ≠ A.le := fun x hx z => h8 x hx A.le List.mem_cons_self z
  have m1 : ∀ x ∈ Sh.foot A.c, H' x = H x := fun x hx => e4 x (fun z => h1 (z ▸ hx)) (nle x (List.mem_cons_of_mem _ hx)) fun z => fu (mem_rec (z ▸ List.mem_cons_of_mem _ hx))
  have m2 : ∀ x ∈ A.ps.flatMap Sh.foot, H' x = H x := fun x hx => e4 x (nr x (List.mem_cons_of_mem _ (List.mem_cons_of_mem _ (List.mem_append_left _ hx)))) (fun z => h3 (List.mem_cons_of_mem _ (z ▸ List.mem_append_left _ hx))) fun z => fu (mem_ps (z ▸ hx))
  have m3 : ∀ x ∈ foot cb, H' x = H x := fun x hx => e4 x (fun z => hd x hx (z ▸ mem_rec List.mem_cons_self)) (fun z => hd x hx (z ▸ mem_le)) fun z => fub (z ▸ hx)
  have nle_lu : A.le ≠ u := fun z => fu (z ▸ mem_le)
  have sub : ∀ x ∈ ((cb :: A.ps).take 20).flatMap foot, x ∈ foot cb ∨ x ∈ A.ps.flatMap foot := fun x hx => by
    have q := disjoint_flat.subset hx
    rw [List.flatMap_cons] at q
    exact List.mem_append.mp q
  refine ⟨⟨⟨⟨dr, e1⟩, D.rec_.now.mono fun x hx o e => (m1 x hx).trans e, D.rec_.nd⟩, e2, e3, ?_, True.intro, ?_⟩, ⟨fun x hx => ?_, fun x o e hx => ?_, fun x e => ?_⟩⟩
  · have q : Sn n H' (cb :: A.ps) (now :: d.past) := ⟨S.mono fun x hx o e => (m3 x hx).trans e, D.past.mono fun x hx o e => (m2 x hx).trans e⟩
    exact q.take 20
  · show ((A.r :: Sh.foot A.c) ++ (A.le :: u :: (((cb :: A.ps).take 20).flatMap foot ++ []))).Nodup
    rw [List.append_nil]
    have big : ((cb :: A.ps).flatMap foot).Nodup := by
      rw [List.flatMap_cons]
      exact List.nodup_append.mpr ⟨hb, h5, fun x hx y hy z => hd x hx (z ▸ mem_ps hy)⟩
    refine List.nodup_append.mpr ⟨List.nodup_cons.mpr ⟨h1, h2⟩, List.nodup_cons.mpr ⟨fun hx => ?_, List.nodup_cons.mpr ⟨fun hx => ?_, big.sublist disjoint_flat⟩⟩, fun x hx y hy z => ?_⟩
    · rcases List.mem_cons.mp hx with z | z
      · exact nle_lu z
      · rcases sub _ z with z | z
        · exact hd _ z mem_le
        · exact h3 (List.mem_cons_of_mem _ (List.mem_append_left _ z))
    · rcases sub _ hx with z | z
      · exact fub z
      · exact fu (mem_ps z)
    · subst z
      rcases List.mem_cons.mp hy with z | z
      · exact nle x hx z
      · rcases List.mem_cons.mp z with z | z
        · exact fu (mem_rec (z ▸ hx))
        · rcases sub _ z with z | z
          · exact hd x z (mem_rec hx)
          · exact h8 x hx x (List.mem_cons_of_mem _ (List.mem_cons_of_mem _ (List.mem_append_left _ z))) rfl
  · have hx : x ∈ (A.r :: Sh.foot A.c) ++ (A.le :: u :: (((cb :: A.ps).take 20).flatMap foot ++ [])) := hx
    rw [List.append_nil] at hx
    rcases List.mem_append.mp hx with z | z
    · exact .inl (List.mem_append_left _ (mem_rec z))
    · rcases List.mem_cons.mp z with z | z
      · rw [z]; exact .inl (List.mem_append_left _ mem_le)
      · rcases List.mem_cons.mp z with z | z
        · rw [z]; exact .inr hu
        · rcases sub _ z with z | z
          · exact .inl (List.mem_append_right _ z)
          · exact .inl (List.mem_append_left _ (mem_ps z))
  · rw [e4 x (fun z => hx (z ▸ List.mem_append_left _ (mem_rec List.mem_cons_self))) (fun z => hx (z ▸ List.mem_append_left _ mem_le)) (ne_of_none e hu)]
    exact e
  · by_cases z1 : x = A.r
    · rw [z1, e1] at e; cases e
    · by_cases z2 : x = A.le
      · rw [z2, e2] at e; cases e
      · by_cases z3 : x = u
        · rw [z3, e3] at e; cases e
        · rw [e4 x z1 z2 z3] at e; exact e
/-- the record's own three things change: what it holds is laid otherwise -/
theorem DeskAt.turn (D : DeskAt n H A d) {dr : Addr} {c' : Cell} {ps' fs' : List Cell} {d' : Desk}
    (e1 : H' A.r = some (.ins n.c_Record dr (fl_Record (.int d'.now.t) (.ref c'.1) (.ref A.le) (.ref A.lu)))) (e2 : H' A.le = some (.lst (ps'.reverse.map fun q => V.ref q.1))) (e3 : H' A.lu = some (.lst (fs'.reverse.map fun q => V.ref q.1)))
    (e4 : ∀ x, x ≠ A.r → x ≠ A.le → x ≠ A.lu → H' x = H x) (pm : (Sh.foot A.c ++ (A.ps.flatMap Sh.foot ++ A.fs.flatMap Sh.foot)).Perm (Sh.foot c' ++ (ps'.flatMap Sh.foot ++ fs'.flatMap Sh.foot)))
    (s1 : Snap n H c' d'.now.states) (s2 : Sn n H ps' d'.past) (s3 : Sn n H fs' d'.future) :
    DeskAt n H' ⟨A.r, A.le, A.lu, c', ps', fs'⟩ d' ∧ Fr A.foot H (Pl.foot ⟨A.r, A.le, A.lu, c', ps', fs'⟩) H' := by
  have nd := D.nd
  have pa : ∀ (c : Cell) (ps fs : List Cell), ((A.r :: Sh.foot c) ++ (A.le :: A.lu :: (ps.flatMap Sh.foot ++ fs.flatMap Sh.foot))).Perm (A.r :: A.le :: A.lu :: (Sh.foot c ++ (ps.flatMap Sh.foot ++ fs.flatMap Sh.foot))) := fun c ps fs => by
    refine List.Perm.cons _ ?_
    refine List.perm_middle.trans (List.Perm.cons _ ?_)
    exact List.perm_middle
  have pf : A.foot.Perm (Pl.foot ⟨A.r, A.le, A.lu, c', ps', fs'⟩) := ((pa A.c A.ps A.fs).trans (List.Perm.cons _ (List.Perm.cons _ (List.Perm.cons _ pm)))).trans (pa c' ps' fs').symm
  have nd' := (pf.nodup_iff).mp nd
  have nd2 := ((pa c' ps' fs').nodup_iff).mp nd'
  rw [List.nodup_cons, List.nodup_cons, List.nodup_cons] at nd2
  obtain ⟨h1, h2, h3, h4⟩ := nd2
  have m : ∀ x ∈ Sh.foot c' ++ (ps'.flatMap Sh.foot ++ fs'.flatMap Sh.foot), ∀ o, H x = some o → H' x = some o := fun x hx o e =>
    (e4 x (fun z => h1 (z ▸ List.mem_cons_of_mem _ (List.mem_cons_of_mem _ hx))) (fun z => h2 (z ▸ List.mem_cons_of_mem _ hx)) (fun z => h3 (z ▸ hx))).trans e
  refine ⟨⟨⟨⟨dr, e1⟩, s1.mono fun x hx => m x (List.mem_append_left _ hx), ?_⟩, e2, e3, s2.mono fun x hx => m x (List.mem_append_right _ (List.mem_append_left _ hx)), s3.mono fun x hx => m x (List.mem_append_right _ (List.mem_append_right _ hx)), nd'⟩, ⟨fun x hx => ?_, fun x o e hx => ?_, fun x e => ?_⟩⟩
  · have q : ((A.r :: Sh.foot c') ++ (A.le :: A.lu :: (ps'.flatMap Sh.foot ++ fs'.flatMap Sh.foot))).Nodup := nd'
    exact (List.nodup_append.mp q).1
  · exact .inl ((pf.mem_iff).mpr hx)
  · rw [e4 x (fun z => hx (z ▸ mem_rec List.mem_cons_self)) (fun z => hx (z ▸ mem_le)) (fun z => hx (z ▸ mem_lu))]
    exact e
  · by_cases z1 : x = A.r
    · rw [z1, e1] at e; cases e
    · by_cases z2 : x = A.le
      · rw [z2, e2] at e; cases e
      · by_cases z3 : x = A.lu
        · rw [z3, e3] at e; cases e
        · rw [e4 x z1 z2 z3] at e; exact e
end
end Sh
set_option Elab.async false
set_option linter.all false
/-! New states, one behind another; a record that begins. -/
namespace Sh
open PySem PySem.Spec PyProof.Rows L2
open Km484 (State_ Book Desk Call)
def st0 : State_ := ⟨true, 0, 0, 0, none, none⟩
structure CpAt (n : Nm) (H : Hp) (D : Addr) (ss : List State_) (i : Nat) (H' : Hp) (as : List Addr) : Prop where
  len : as.length = i
  lst : H' D = some (.lst (as.map V.ref))
  at_ : ∀ (j : Nat) (a : Addr), as[j]? = some a → ∃ s, ss[j]? = some s ∧ StAt n H' a s
  nd : (D :: as).Nodup
  new : ∀ a ∈ as, H a = none
  ext : Ext H H'
def CpI (n : Nm) (H : Hp) (D : Addr) (ss : List State_) (i : Nat) (H' : Hp) : Prop := ∃ as, CpAt n H D ss i H' as
section
variable {n : Nm} {H H' : Hp} {D : Addr} {ss : List State_} {i : Nat}
theorem CpI.zero (hD : H D = none) : CpI n H D ss 0 (upd H D (.lst [])) :=
  ⟨[], rfl, upd_same, fun j a h => (by cases h), by simp, fun a h => (by cases h), .new hD⟩
theorem CpI.step (c : CpI n H D ss i H') (hD : H D = none) {s : State_} (hs : ss[i]? = some s) {x dx : Addr} (hx : H' x = none) (hdx : H' dx = none) :
    ∃ as : List Addr, as.length = i ∧ upd (upd H' dx (.own x)) x (.ins n.c_State dx (flS s)) D = some (.lst (as.map V.ref)) ∧ CpI n H D ss (i + 1) (upd (upd (upd H' dx (.own x)) x (.ins n.c_State dx (flS s))) D (.lst (as.map V.ref ++ [.ref x]))) := by
  obtain ⟨as, C⟩ := c
  have nd := List.nodup_cons.mp C.nd
  have xD : x ≠ D := fun z => by rw [z, C.lst] at hx; cases hx
  have dD : dx ≠ D := fun z => by rw [z, C.lst] at hdx; cases hdx
  have some_as : ∀ a ∈ as, ∃ o, H' a = some o := fun a ha => by
    obtain ⟨j, h⟩ := List.mem_iff_getElem?.mp ha
    obtain ⟨s, _, dx, e⟩ := C.at_ j a h
    exact ⟨_, e⟩
  have xas : x ∉ as := fun z => by
    obtain ⟨o, e⟩ := some_as x z
    rw [hx] at e; cases e
  refine ⟨as, C.len, by rw [upd_ne xD.symm, upd_ne dD.symm]; exact C.lst, as ++ [x], ?_, ?_, fun j a h => ?_, ?_, fun a h => ?_, fun b o e => ?_⟩
  · rw [List.length_append, C.len]; rfl
  · rw [upd_same, List.map_append]; rfl
  · rw [List.getElem?_append] at h
    split at h
    · have ma := List.mem_of_getElem? h
      obtain ⟨s', e1, dx', e2⟩ := C.at_ j a h
      refine ⟨s', e1, dx', ?_⟩
      rw [upd_ne (fun z : a = D => nd.1 (z ▸ ma)), upd_ne (ne_of_none e2 hx), upd_ne (ne_of_none e2 hdx)]
      exact e2
    · rename_i hj
      have e0 : j = i := by
        have := (List.getElem?_eq_some_iff.mp h).1
        have := C.len
        simp at *
        omega
      subst e0
      rw [C.len, Nat.sub_self] at h
      cases h
      exact ⟨s, hs, dx, by rw [upd_ne xD, upd_same]⟩
  · have p : (x :: D :: as).Perm (D :: (as ++ [x])) := (List.perm_append_singleton x (D :: as)).symm
    refine (p.nodup_iff).mp (List.nodup_cons.mpr ⟨fun z => ?_, C.nd⟩)
    rcases List.mem_cons.mp z with z | z
    · exact xD z
    · exact xas z
  · rcases List.mem_append.mp h with z | z
    · exact C.new a z
    · rw [List.mem_singleton.mp z]
      exact C.ext.none hx
  · have q := C.ext b o e
    rw [upd_ne (ne_of_none e hD), upd_ne (ne_of_none q hx), upd_ne (ne_of_none q hdx)]
    exact q
theorem CpI.snap (c : CpI n H D ss ss.length H') (hD : H D = none) : ∃ as, Snap n H' (D, as) ss ∧ (foot (D, as)).Nodup ∧ (∀ x ∈ foot (D, as), H x = none) ∧ Ext H H' := by
  obtain ⟨as, C⟩ := c
  refine ⟨as, ⟨C.lst, C.len, C.at_⟩, C.nd, fun x hx => ?_, C.ext⟩
  rcases List.mem_cons.mp hx with z | z
  · rw [z]; exact hD
  · exact C.new x z
end
theorem start_desk {n : Nm} {H H1 H2 H5 : Hp} {r D le lu dr : Addr} {k t : Nat} {o1 : HO} (hH : ∀ b, b ≠ r → H1 b = H b) (hr : H1 r = some o1) (hD : H1 D = none) (B : CpI n H1 D (List.replicate k st0) k H2) (hle : H2 le = none) (hlu : H2 lu = none) (hne : le ≠ lu)
    (e1 : H5 r = some (.ins n.c_Record dr (fl_Record (.int t) (.ref D) (.ref le) (.ref lu)))) (e2 : H5 le = some (.lst [])) (e3 : H5 lu = some (.lst [])) (e4 : ∀ x, x ≠ r → x ≠ le → x ≠ lu → H5 x = H2 x) :
    ∃ A : Pl, A.r = r ∧ DeskAt n H5 A ⟨Km484.opened k t, [], []⟩ ∧ Fr [r] H A.foot H5 := by
  have B' : CpI n H1 D (List.replicate k st0) (List.replicate k st0).length H2 := by rw [List.length_replicate]; exact B
  obtain ⟨as, S, nd, new, X⟩ := B'.snap hD
  have r2 := X r o1 hr
  have ne : ∀ x ∈ foot (D, as), x ≠ r ∧ x ≠ le ∧ x ≠ lu := fun x hx => by
    obtain ⟨o, e⟩ := S.has hx
    refine ⟨fun z => ?_, ne_of_none e hle, ne_of_none e hlu⟩
    have q := new x hx
    rw [z, hr] at q; cases q
  have S' : Snap n H5 (D, as) (List.replicate k st0) := S.mono fun x hx o e => (e4 x (ne x hx).1 (ne x hx).2.1 (ne x hx).2.2).trans e
  have rle : r ≠ le := ne_of_none r2 hle
  have rlu : r ≠ lu := ne_of_none r2 hlu
  have nd1 : (r :: foot (D, as)).Nodup := List.nodup_cons.mpr ⟨fun z => (ne r z).1 rfl, nd⟩
  refine ⟨⟨r, le, lu, (D, as), [], []⟩, rfl, ⟨⟨⟨dr, e1⟩, S', nd1⟩, e2, e3, True.intro, True.intro, ?_⟩, ⟨fun b hb => ?_, fun b o e hb => ?_, fun b e => ?_⟩⟩
  · show ((r :: foot (D, as)) ++ [le, lu]).Nodup
    refine List.nodup_append.mpr ⟨nd1, by simp [hne], fun x hx y hy z => ?_⟩
    subst z
    have hy : x = le ∨ x = lu := by simpa using hy
    rcases List.mem_cons.mp hx with z | z
    · rcases hy with y | y
      · exact rle (z ▸ y)
      · exact rlu (z ▸ y)
    · rcases hy with y | y
      · exact (ne x z).2.1 y
      · exact (ne x z).2.2 y
  · have hb : b ∈ (r :: foot (D, as)) ++ [le, lu] := hb
    have back : ∀ {y}, H1 y = none → H y = none := fun {y} h => by
      rw [← hH y (fun z => by rw [z, hr] at h; cases h)]
      exact h
    rcases List.mem_append.mp hb with z | z
    · rcases List.mem_cons.mp z with z | z
      · exact .inl (List.mem_singleton.mpr z)
      · exact .inr (back (new b z))
    · have hy : b = le ∨ b = lu := by simpa using z
      rcases hy with y | y
      · rw [y]; exact .inr (back (X.none hle))
      · rw [y]; exact .inr (back (X.none hlu))
  · have br : b ≠ r := fun z => hb (List.mem_singleton.mpr z)
    have q := X b o ((hH b br).trans e)
    rw [e4 b br (ne_of_none q hle) (ne_of_none q hlu)]
    exact q
  · by_cases z1 : b = r
    · rw [z1, e1] at e; cases e
    · by_cases z2 : b = le
      · rw [z2, e2] at e; cases e
      · by_cases z3 : b = lu
        · rw [z3, e3] at e; cases e
        · rw [e4 b z1 z2 z3] at e
          rw [← hH b z1]
          exact X.none e
end Sh
set_option Elab.async false
set_option linter.all false
set_option maxRecDepth 100000
set_option maxHeartbeats 4000000
namespace Sh
open PySem PySem.Spec PyProof.Rows L2
open Km484 (State_ Book Desk Call)
variable {P : Program} {w : World} {K : PySem.W.Frag} {mg : Str → Option Value} {base : Heap} {n : Nm}
local macro_rules
  | `(tactic| wide_line with $t) => `(tactic| simp only [tNext, tSeq, tDrop, tRet, tIfS, tVar, tC, tAsg, gName, tOp, tUn, rI, rI0, rU, rEq, rNe, scal, tTest, tB, tOr, tNot, tAndV, tOrV, tIf, tIsN, tNotN, tFld, sFld, tNil, tCons, tLst, tCall, tMeth, tMake, tCB, tLM, tLM0, tSl, tPart, rAppend, rExtend, rPop, rPopAt, hIx, hLen, hSum, iLst, iRng1, rIxT, gTup, gCons, gNil, tYes, ln0, ln1, ln2, ln3, ln5, lkS1, lkS2, lkS3, Bool.not_true, Bool.not_false, HO.ins.injEq, HO.lst.injEq, HO.tup.injEq, upd_same, upd_upd, cxK, Nat.reduceLT, Nat.reduceLeDiff, atI_natE, atI_zero, atI_one, atI_two, atI_three, List.getElem?_map, Option.map_some, L2.start, List.map_cons, List.map_nil, List.cons_append, List.nil_append, List.append_nil, List.length_cons, List.length_nil, List.replicate, Nat.sub_self, Nat.zero_add, Nat.reduceAdd, Nat.reduceSub, List.getElem?_cons_zero, List.getElem?_cons_succ, List.set_cons_zero, List.set_cons_succ, Option.some.injEq, V.int.injEq, V.bl.injEq, V.ref.injEq, List.cons.injEq, and_true, true_and, exists_eq, exists_eq', exists_eq_left, exists_eq_left', exists_and_left, exists_and_right, and_assoc, decide_eq_true_eq, Int.natCast_inj, Int.toNat_natCast, reduceCtorEq, Bool.not_eq_true, Bool.not_not, if_true, if_false, ite_true, ite_false, Bool.false_eq_true, forall_const, exists_const, shr_nat, shl_nat, and_nat, or_nat, andnot_nat, and1_nat, bit_nat, Int.toNat_one, Int.reduceToNat, Int.pow_one, Nat.le_refl, Int.le_refl, Int.natCast_nonneg, lk_State_bound, lk_State_may_follow, lk_State_owes, lk_State_parted_from, lk_State_taken_by, pt_State_bound, pt_State_may_follow, pt_State_owes, pt_State_parted_from, pt_State_taken_by, lk_State_init_m, lk_State_is_there_m, lk_State_vanish_into_m, lk_State_copied_m, p0_State, p1_State, p2_State, p3_State, p4_State, ln_State, Txt.cl_State $t, Txt.na_State_bound $t, Txt.na_State_may_follow $t, Txt.na_State_owes $t, Txt.na_State_parted_from $t, Txt.na_State_taken_by $t, lk_Record_treaties, lk_Record_states, lk_Record_earlier, lk_Record_undone, pt_Record_treaties, pt_Record_states, pt_Record_earlier, pt_Record_undone, lk_Record_init_m, lk_Record_begin_m, lk_Record_has_state_m, lk_Record_had_state_m, lk_Record_has_treaty_m, lk_Record_is_full_m, lk_Record_who_is_there_m, lk_Record_total_debt_m, lk_Record_who_is_bound_m, lk_Record_line_m, lk_Record_ends_up_in_m, lk_Record_heirs_m, lk_Record_part_m, lk_Record_take_up_m, lk_Record_copied_states_m, lk_Record_keep_change_m, lk_Record_take_back_m, lk_Record_do_again_m, p0_Record, p1_Record, p2_Record, p3_Record, ln_Record, Txt.cl_Record $t, Txt.na_Record_treaties $t, Txt.na_Record_states $t, Txt.na_Record_earlier $t, Txt.na_Record_undone $t])
  | `(tactic| wide_line with $t using ($a, $bs,*)) => `(tactic| simp only [tNext, tSeq, tDrop, tRet, tIfS, tVar, tC, tAsg, gName, tOp, tUn, rI, rI0, rU, rEq, rNe, scal, tTest, tB, tOr, tNot, tAndV, tOrV, tIf, tIsN, tNotN, tFld, sFld, tNil, tCons, tLst, tCall, tMeth, tMake, tCB, tLM, tLM0, tSl, tPart, rAppend, rExtend, rPop, rPopAt, hIx, hLen, hSum, iLst, iRng1, rIxT, gTup, gCons, gNil, tYes, ln0, ln1, ln2, ln3, ln5, lkS1, lkS2, lkS3, Bool.not_true, Bool.not_false, HO.ins.injEq, HO.lst.injEq, HO.tup.injEq, upd_same, upd_upd, cxK, Nat.reduceLT, Nat.reduceLeDiff, atI_natE, atI_zero, atI_one, atI_two, atI_three, List.getElem?_map, Option.map_some, L2.start, List.map_cons, List.map_nil, List.cons_append, List.nil_append, List.append_nil, List.length_cons, List.length_nil, List.replicate, Nat.sub_self, Nat.zero_add, Nat.reduceAdd, Nat.reduceSub, List.getElem?_cons_zero, List.getElem?_cons_succ, List.set_cons_zero, List.set_cons_succ, Option.some.injEq, V.int.injEq, V.bl.injEq, V.ref.injEq, List.cons.injEq, and_true, true_and, exists_eq, exists_eq', exists_eq_left, exists_eq_left', exists_and_left, exists_and_right, and_assoc, decide_eq_true_eq, Int.natCast_inj, Int.toNat_natCast, reduceCtorEq, Bool.not_eq_true, Bool.not_not, if_true, if_false, ite_true, ite_false, Bool.false_eq_true, forall_const, exists_const, shr_nat, shl_nat, and_nat, or_nat, andnot_nat, and1_nat, bit_nat, Int.toNat_one, Int.reduceToNat, Int.pow_one, Nat.le_refl, Int.le_refl, Int.natCast_nonneg, lk_State_bound, lk_State_may_follow, lk_State_owes, lk_State_parted_from, lk_State_taken_by, pt_State_bound, pt_State_may_follow, pt_State_owes, pt_State_parted_from, pt_State_taken_by, lk_State_init_m, lk_State_is_there_m, lk_State_vanish_into_m, lk_State_copied_m, p0_State, p1_State, p2_State, p3_State, p4_State, ln_State, Txt.cl_State $t, Txt.na_State_bound $t, Txt.na_State_may_follow $t, Txt.na_State_owes $t, Txt.na_State_parted_from $t, Txt.na_State_taken_by $t, lk_Record_treaties, lk_Record_states, lk_Record_earlier, lk_Record_undone, pt_Record_treaties, pt_Record_states, pt_Record_earlier, pt_Record_undone, lk_Record_init_m, lk_Record_begin_m, lk_Record_has_state_m, lk_Record_had_state_m, lk_Record_has_treaty_m, lk_Record_is_full_m, lk_Record_who_is_there_m, lk_Record_total_debt_m, lk_Record_who_is_bound_m, lk_Record_line_m, lk_Record_ends_up_in_m, lk_Record_heirs_m, lk_Record_part_m, lk_Record_take_up_m, lk_Record_copied_states_m, lk_Record_keep_change_m, lk_Record_take_back_m, lk_Record_do_again_m, p0_Record, p1_Record, p2_Record, p3_Record, ln_Record, Txt.cl_Record $t, Txt.na_Record_treaties $t, Txt.na_Record_states $t, Txt.na_Record_earlier $t, Txt.na_Record_undone $t, $a:term, $[$bs:term],*])
  | `(tactic| wide_line with $t using $a) => `(tactic| simp only [tNext, tSeq, tDrop, tRet, tIfS, tVar, tC, tAsg, gName, tOp, tUn, rI, rI0, rU, rEq, rNe, scal, tTest, tB, tOr, tNot, tAndV, tOrV, tIf, tIsN, tNotN, tFld, sFld, tNil, tCons, tLst, tCall, tMeth, tMake, tCB, tLM, tLM0, tSl, tPart, rAppend, rExtend, rPop, rPopAt, hIx, hLen, hSum, iLst, iRng1, rIxT, gTup, gCons, gNil, tYes, ln0, ln1, ln2, ln3, ln5, lkS1, lkS2, lkS3, Bool.not_true, Bool.not_false, HO.ins.injEq, HO.lst.injEq, HO.tup.injEq, upd_same, upd_upd, cxK, Nat.reduceLT, Nat.reduceLeDiff, atI_natE, atI_zero, atI_one, atI_two, atI_three, List.getElem?_map, Option.map_some, L2.start, List.map_cons, List.map_nil, List.cons_append, List.nil_append, List.append_nil, List.length_cons, List.length_nil, List.replicate, Nat.sub_self, Nat.zero_add, Nat.reduceAdd, Nat.reduceSub, List.getElem?_cons_zero, List.getElem?_cons_succ, List.set_cons_zero, List.set_cons_succ, Option.some.injEq, V.int.injEq, V.bl.injEq, V.ref.injEq, List.cons.injEq, and_true, true_and, exists_eq, exists_eq', exists_eq_left, exists_eq_left', exists_and_left, exists_and_right, and_assoc, decide_eq_true_eq, Int.natCast_inj, Int.toNat_natCast, reduceCtorEq, Bool.not_eq_true, Bool.not_not, if_true, if_false, ite_true, ite_false, Bool.false_eq_true, forall_const, exists_const, shr_nat, shl_nat, and_nat, or_nat, andnot_nat, and1_nat, bit_nat, Int.toNat_one, Int.reduceToNat, Int.pow_one, Nat.le_refl, Int.le_refl, Int.natCast_nonneg, lk_State_bound, lk_State_may_follow, lk_State_owes, lk_State_parted_from, lk_State_taken_by, pt_State_bound, pt_State_may_follow, pt_State_owes, pt_State_parted_from, pt_State_taken_by, lk_State_init_m, lk_State_is_there_m, lk_State_vanish_into_m, lk_State_copied_m, p0_State, p1_State, p2_State, p3_State, p4_State, ln_State, Txt.cl_State $t, Txt.na_State_bound $t, Txt.na_State_may_follow $t, Txt.na_State_owes $t, Txt.na_State_parted_from $t, Txt.na_State_taken_by $t, lk_Record_treaties, lk_Record_states, lk_Record_earlier, lk_Record_undone, pt_Record_treaties, pt_Record_states, pt_Record_earlier, pt_Record_undone, lk_Record_init_m, lk_Record_begin_m, lk_Record_has_state_m, lk_Record_had_state_m, lk_Record_has_treaty_m, lk_Record_is_full_m, lk_Record_who_is_there_m, lk_Record_total_debt_m, lk_Record_who_is_bound_m, lk_Record_line_m, lk_Record_ends_up_in_m, lk_Record_heirs_m, lk_Record_part_m, lk_Record_take_up_m, lk_Record_copied_states_m, lk_Record_keep_change_m, lk_Record_take_back_m, lk_Record_do_again_m, p0_Record, p1_Record, p2_Record, p3_Record, ln_Record, Txt.cl_Record $t, Txt.na_Record_treaties $t, Txt.na_Record_states $t, Txt.na_Record_earlier $t, Txt.na_Record_undone $t, $a:term])
theorem qb {Q : V → Hp → Prop} {H : Hp} {a b : Bool} (k : Q (.bl a) H) (e : a = b) : Q (.bl b) H := e ▸ k
theorem qi {Q : V → Hp → Prop} {H : Hp} {a b : Int} (k : Q (.int a) H) (e : a = b) : Q (.int b) H := e ▸ k
theorem ite_q {c : Prop} [Decidable c] {Q : V → Hp → Prop} {H : Hp} {a b d : Bool} (k : Q (.bl d) H) (h1 : c → a = d) (h2 : ¬ c → b = d) : if c then Q (.bl a) H else Q (.bl b) H := by
  split
  · rename_i h; rw [h1 h]; exact k
  · rename_i h; rw [h2 h]; exact k
def sp_is_in : Sp := fun vs H Q _ => ∃ (a b : Nat), vs = [.int a, .int b] ∧ Q (.bl (b.testBit a)) H
theorem ok_is_in (T : Txt n K mg) : FnOk P w K mg base CX0 1 n.f_is_in n.d_is_in ["one", "many"] sp_is_in := by
  refine T.F_is_in.ok sc_is_in (fun vs H Q E h => ?_) (fun cdv A outer s H vs Q E hr h => ?_)
  · obtain ⟨a, b, rfl, _⟩ := h
    rfl
  · obtain ⟨a, b, rfl, k⟩ := h
    refine ⟨_, (pss_one (ps_ret (pe_cmpR op_eq (pe_op op_and (pe_op op_shr (pv 1) (pv 0)) pe_int) pe_int (nomark _)))), ?_⟩
    wide_line with T
    exact k
def sp_with_one : Sp := fun vs H Q _ => ∃ (a b : Nat), vs = [.int a, .int b] ∧ a < 1000 ∧ Q (.int ((b ||| 2 ^ a : Nat) : Int)) H
theorem ok_with_one (T : Txt n K mg) : FnOk P w K mg base CX0 1 n.f_with_one n.d_with_one ["one", "many"] sp_with_one := by
  refine T.F_with_one.ok sc_with_one (fun vs H Q E h => ?_) (fun cdv A outer s H vs Q E hr h => ?_)
  · obtain ⟨a, b, rfl, _⟩ := h
    rfl
  · obtain ⟨a, b, rfl, ha, k⟩ := h
    refine ⟨_, (pss_one (ps_ret (pe_op op_or (pv 1) (pe_op op_shl pe_int (pv 0))))), ?_⟩
    wide_line with T
    exact ⟨⟨by omega, by omega, by decide⟩, k⟩
def sp_without_one : Sp := fun vs H Q _ => ∃ (a b : Nat), vs = [.int a, .int b] ∧ a < 1000 ∧ Q (.int ((b - (b &&& 2 ^ a) : Nat) : Int)) H
theorem ok_without_one (T : Txt n K mg) : FnOk P w K mg base CX0 1 n.f_without_one n.d_without_one ["one", "many"] sp_without_one := by
  refine T.F_without_one.ok sc_without_one (fun vs H Q E h => ?_) (fun cdv A outer s H vs Q E hr h => ?_)
  · obtain ⟨a, b, rfl, _⟩ := h
    rfl
  · obtain ⟨a, b, rfl, ha, k⟩ := h
    refine ⟨_, (pss_one (ps_ret (pe_op op_and (pv 1) (pe_un un_inv (pe_op op_shl pe_int (pv 0)))))), ?_⟩
    wide_line with T
    exact ⟨⟨by omega, by omega, by decide⟩, k⟩
def sp_how_many : Sp := fun vs H Q _ => ∃ (m : Nat), vs = [.int m] ∧ Q (.int ((pop m : Nat) : Int)) H
theorem ok_how_many (T : Txt n K mg) : FnOk P w K mg base CX0 1 n.f_how_many n.d_how_many ["many"] sp_how_many := by
  refine T.F_how_many.ok sc_how_many (fun vs H Q E h => ?_) (fun cdv A outer s H vs Q E hr h => ?_)
  · obtain ⟨m, rfl, _⟩ := h
    rfl
  · obtain ⟨m, rfl, k⟩ := h
    refine ⟨_, (pss_cons (ps_set (i := 1) sc_how_many.nd rfl (by first | exact Or.inl rfl | exact Or.inr rfl) pe_int) (pss_cons (ps_while PassesOwn.never (pt_cmpR op_gt (pv 0) pe_int (nomark _)) (pss_cons (ps_set (i := 1) sc_how_many.nd rfl (by first | exact Or.inl rfl | exact Or.inr rfl) (pe_op op_add (pv 1) (pe_op op_and (pv 0) pe_int))) (pss_one (ps_set (i := 0) sc_how_many.nd rfl (by first | exact Or.inl rfl | exact Or.inr rfl) (pe_op op_shr (pv 0) pe_int))))) (pss_one (ps_ret (pv 1))))), ?_⟩
    wide_line with T
    refine while_by (fun σ H' => ∃ (r c : Nat), σ = [some (.int r), some (.int c)] ∧ H' = H ∧ c + pop r = pop m) (fun σ _ => match σ with | [some (.int r), _] => r.toNat | _ => 0) ⟨m, 0, rfl, rfl, Nat.zero_add _⟩ ?_ ?_
    · rintro σ H' ⟨r, c, rfl, rfl, e⟩
      wide_line with T
      split
      · have h1 : r ≠ 0 := by omega
        have h2 := pop_pos h1
        exact ⟨by decide, ⟨r / 2, by omega, c + r % 2, by omega, by omega⟩, by omega⟩
      · have h1 : r = 0 := by omega
        subst h1
        rw [pop_zero] at e
        exact qi k (by omega)
    · rintro σ H1 Q1 Q2 hq ⟨v, e, i, j, e1, e2, q, e3, hc⟩
      exact ⟨v, e, i, j, e1, e2, q, e3, hq _ _ hc⟩
def sp_kept_share : Sp := fun vs H Q _ => ∃ (o p q : Nat), vs = [.int o, .int p, .int q] ∧ o ≤ 10000000 ∧ 0 < p + q ∧ p + q < 1000 ∧ Q (.int ((o * p / (p + q) : Nat) : Int)) H
theorem ok_kept_share (T : Txt n K mg) : FnOk P w K mg base CX0 1 n.f_kept_share n.d_kept_share ["owes", "p", "q"] sp_kept_share := by
  refine T.F_kept_share.ok sc_kept_share (fun vs H Q E h => ?_) (fun cdv A outer s H vs Q E hr h => ?_)
  · obtain ⟨o, p, q, rfl, _⟩ := h
    rfl
  · obtain ⟨o, p, q, rfl, ho, h1, h2, k⟩ := h
    refine ⟨_, (pss_one (ps_ret (pe_op op_fdiv (pe_op op_mul (pv 0) (pv 1)) (pe_op op_add (pv 1) (pv 2))))), ?_⟩
    wide_line with T using (CMul, CDiv)
    refine ⟨.inl ⟨by omega, by omega⟩, by omega, by omega, ?_⟩
    have e : (o : Int) * (p : Int) / ((p : Int) + (q : Int)) = ((o * p / (p + q) : Nat) : Int) := by norm_cast
    rw [e]
    exact k
def sp_wrong_start : Sp := fun vs H Q _ => ∃ (k t : Nat), vs = [.int k, .int t] ∧ Q (.bl (decide (k = 0 ∨ Km484.FIRST < k ∨ t = 0 ∨ Km484.TREATIES < t))) H
theorem ok_wrong_start (T : Txt n K mg) : FnOk P w K mg base CX0 1 n.f_wrong_start n.d_wrong_start ["n", "t"] sp_wrong_start := by
  refine T.F_wrong_start.ok sc_wrong_start (fun vs H Q E h => ?_) (fun cdv A outer s H vs Q E hr h => ?_)
  · obtain ⟨k, t, rfl, _⟩ := h
    rfl
  · obtain ⟨k, t, rfl, q⟩ := h
    refine ⟨_, (pss_one (ps_ret (pe_or (pe_cmpR op_lt (pv 0) pe_int (nomark _)) (pe_or (pe_cmpR op_gt (pv 0) (pe_gint rfl T.g_MOST_AT_START) (nomark _)) (pe_or (pe_cmpR op_lt (pv 1) pe_int (nomark _)) (pe_one (pe_cmpR op_gt (pv 1) (pe_gint rfl T.g_MOST_TREATIES) (nomark _)))))))), ?_⟩
    wide_line with T
    have e1 : Km484.FIRST = 4 := rfl
    have e2 : Km484.TREATIES = 8 := rfl
    (repeat' split) <;> exact qb q (by rw [Bool.eq_iff_iff]; simp; omega)
def sp_wrong_units : Sp := fun vs H Q _ => ∃ (x : Nat), vs = [.int x] ∧ Q (.bl (decide (x = 0 ∨ 1000000 < x))) H
theorem ok_wrong_units (T : Txt n K mg) : FnOk P w K mg base CX0 1 n.f_wrong_units n.d_wrong_units ["x"] sp_wrong_units := by
  refine T.F_wrong_units.ok sc_wrong_units (fun vs H Q E h => ?_) (fun cdv A outer s H vs Q E hr h => ?_)
  · obtain ⟨x, rfl, _⟩ := h
    rfl
  · obtain ⟨x, rfl, k⟩ := h
    refine ⟨_, (pss_one (ps_ret (pe_or (pe_cmpR op_lt (pv 0) pe_int (nomark _)) (pe_one (pe_cmpR op_gt (pv 0) (pe_gint rfl T.g_MOST_UNITS) (nomark _)))))), ?_⟩
    wide_line with T
    split <;> exact qb k (by rw [Bool.eq_iff_iff]; simp; omega)
def sp_wrong_mode : Sp := fun vs H Q _ => ∃ (x : Nat), vs = [.int x] ∧ Q (.bl (decide (1 < x))) H
theorem ok_wrong_mode (T : Txt n K mg) : FnOk P w K mg base CX0 1 n.f_wrong_mode n.d_wrong_mode ["mode"] sp_wrong_mode := by
  refine T.F_wrong_mode.ok sc_wrong_mode (fun vs H Q E h => ?_) (fun cdv A outer s H vs Q E hr h => ?_)
  · obtain ⟨x, rfl, _⟩ := h
    rfl
  · obtain ⟨x, rfl, k⟩ := h
    refine ⟨_, (pss_one (ps_ret (pe_cmpR op_gt (pv 0) pe_int (nomark _)))), ?_⟩
    wide_line with T
    rw [show decide ((1 : Int) < (x : Int)) = decide (1 < x) by simp; omega]
    exact k
def sp_wrong_parts : Sp := fun vs H Q _ => ∃ (p q : Nat), vs = [.int p, .int q] ∧ Q (.bl (!Km484.okParts p q)) H
theorem ok_wrong_parts (T : Txt n K mg) : FnOk P w K mg base CX0 1 n.f_wrong_parts n.d_wrong_parts ["p", "q"] sp_wrong_parts := by
  refine T.F_wrong_parts.ok sc_wrong_parts (fun vs H Q E h => ?_) (fun cdv A outer s H vs Q E hr h => ?_)
  · obtain ⟨p, q, rfl, _⟩ := h
    rfl
  · obtain ⟨p, q, rfl, k⟩ := h
    refine ⟨_, (pss_one (ps_ret (pe_or (pe_cmpR op_gt (pv 0) (pe_gint rfl T.g_MOST_PARTS) (nomark _)) (pe_or (pe_cmpR op_gt (pv 1) (pe_gint rfl T.g_MOST_PARTS) (nomark _)) (pe_one (pe_cmpR op_eq (pe_op op_add (pv 0) (pv 1)) pe_int (nomark _))))))), ?_⟩
    wide_line with T
    unfold Km484.okParts at k
    (repeat' split) <;> exact qb k (by rw [Bool.eq_iff_iff]; simp; omega)
def sp_State_init (n : Nm) : Sp := fun vs H Q _ => ∃ (p dx : Addr) (b f o pa : V), vs = [.ref p, b, f, o, pa] ∧ H p = some (.ins n.c_State dx []) ∧ Q .non (upd H p (.ins n.c_State dx (fl_State b f o pa .non)))
theorem ok_State_init (T : Txt n K mg) : FnOk P w K mg base CX0 1 n.f_State_init n.d_State_init ["self", "bound", "may_follow", "owes", "parted_from"] (sp_State_init n) := by
  refine T.F_State_init.ok sc_State_init (fun vs H Q E h => ?_) (fun cdv A outer s H vs Q E hr h => ?_)
  · obtain ⟨p, dx, b, f, o, pa, rfl, _⟩ := h
    rfl
  · obtain ⟨p, dx, b, f, o, pa, rfl, hp, k⟩ := h
    refine ⟨_, (pss_cons (ps_fld (pv 0) (pv 1) rfl) (pss_cons (ps_fld (pv 0) (pv 2) rfl) (pss_cons (ps_fld (pv 0) (pv 3) rfl) (pss_cons (ps_fld (pv 0) (pv 4) rfl) (pss_one (ps_fld (pv 0) pe_non rfl)))))), ?_⟩
    wide_line with T using hp
    exact k
def sp_State_is_there (n : Nm) : Sp := fun vs H Q _ => ∃ (p dx : Addr) (s : State_), vs = [.ref p] ∧ H p = some (.ins n.c_State dx (flS s)) ∧ Q (.bl s.taken.isNone) H
theorem ok_State_is_there (T : Txt n K mg) : FnOk P w K mg base CX0 1 n.f_State_is_there n.d_State_is_there ["self"] (sp_State_is_there n) := by
  refine T.F_State_is_there.ok sc_State_is_there (fun vs H Q E h => ?_) (fun cdv A outer s H vs Q E hr h => ?_)
  · obtain ⟨p, dx, st, rfl, _⟩ := h
    rfl
  · obtain ⟨p, dx, st, rfl, hp, k⟩ := h
    refine ⟨_, (pss_one (ps_ret (pe_cmp (pc_isN (pe_fldK (K := K) (pv 0)))))), ?_⟩
    unfold flS at hp
    wide_line with T using (hp, ov_is)
    exact k
def sp_State_vanish_into (n : Nm) : Sp := fun vs H Q _ => ∃ (p dx : Addr) (s : State_) (j : Nat), vs = [.ref p, .int j] ∧ H p = some (.ins n.c_State dx (flS s)) ∧ Q .non (upd H p (.ins n.c_State dx (flS { s with there := false, bound := 0, free := 0, owes := 0, taken := some j })))
theorem ok_State_vanish_into (T : Txt n K mg) : FnOk P w K mg base CX0 1 n.f_State_vanish_into n.d_State_vanish_into ["self", "taker"] (sp_State_vanish_into n) := by
  refine T.F_State_vanish_into.ok sc_State_vanish_into (fun vs H Q E h => ?_) (fun cdv A outer s H vs Q E hr h => ?_)
  · obtain ⟨p, dx, st, j, rfl, _⟩ := h
    rfl
  · obtain ⟨p, dx, st, j, rfl, hp, k⟩ := h
    refine ⟨_, (pss_cons (ps_fld (pv 0) (pv 1) rfl) (pss_cons (ps_fld (pv 0) pe_int rfl) (pss_cons (ps_fld (pv 0) pe_int rfl) (pss_one (ps_fld (pv 0) pe_int rfl))))), ?_⟩
    unfold flS at hp k
    wide_line with T using hp
    exact k
def sp_State_copied (n : Nm) : Sp := fun vs H Q _ => ∃ (p dx : Addr) (s : State_), vs = [.ref p] ∧ H p = some (.ins n.c_State dx (flS s)) ∧ ∀ q dq, H q = none → H dq = none → Q (.ref q) (upd (upd H dq (.own q)) q (.ins n.c_State dq (flS s)))
theorem ok_State_copied (T : Txt n K mg) : FnOk P w K mg base CX0 3 n.f_State_copied n.d_State_copied ["self"] (sp_State_copied n) := by
  refine T.F_State_copied.ok sc_State_copied (fun vs H Q E h => ?_) (fun cdv A outer s H vs Q E hr h => ?_)
  · obtain ⟨p, dx, st, rfl, _⟩ := h
    rfl
  · obtain ⟨p, dx, st, rfl, hp, k⟩ := h
    refine ⟨_, (pss_cons (ps_set (i := 1) sc_State_copied.nd rfl (by first | exact Or.inl rfl | exact Or.inr rfl) (pe_make T.mk_State (ok_State_init T) (hr.mono (by decide)) rfl T.m_State T.b_State_init .nil pass0 (pa_cons (pe_fldK (K := K) (pv 0)) (pa_cons (pe_fldK (K := K) (pv 0)) (pa_cons (pe_fldK (K := K) (pv 0)) (pa_cons (pe_fldK (K := K) (pv 0)) pa_nil)))))) (pss_cons (ps_fld (pv 1) (pe_fldK (K := K) (pv 0)) rfl) (pss_one (ps_ret (pv 1))))), ?_⟩
    unfold flS at hp k
    wide_line with T using hp
    intro q dq hq hdq hne
    refine ⟨q, dq, _, _, _, _, rfl, upd_same, rfl, ?_⟩
    have hp2 : upd (upd (upd H dq (.own q)) q (.ins n.c_State dq [])) q (.ins n.c_State dq (fl_State (.int st.bound) (.int st.free) (.int st.owes) (ov st.parent) .non)) p = some (.ins n.c_State dx (fl_State (.int st.bound) (.int st.free) (.int st.owes) (ov st.parent) (ov st.taken))) := by
      rw [upd_ne (ne_of_none hp hq), upd_ne (ne_of_none hp hq), upd_ne (ne_of_none hp hdq)]
      exact hp
    rw [upd_upd] at hp2
    wide_line with T using hp2
    exact k q dq hq hdq
/-- what a walk over the states meets -/
theorem RecAt.walk {H : Hp} {r le lu : Addr} {c : Cell} {b : Book} (R : RecAt n H r le lu c b) {i : Nat} {x : V} (h : (c.2.map V.ref)[i]? = some x) : ∃ a, x = .ref a ∧ c.2[i]? = some a ∧ ∃ s, b.states[i]? = some s ∧ b.at_ i = s ∧ i < b.n ∧ ∃ dx, H a = some (.ins n.c_State dx (flS s)) := by
  rw [List.getElem?_map] at h
  cases e : c.2[i]? with
  | none => rw [e] at h; cases h
  | some a =>
    rw [e] at h
    cases h
    obtain ⟨s, es, dx, hs⟩ := R.now.at_ i a e
    exact ⟨a, rfl, rfl, s, es, at_some es, (List.getElem?_eq_some_iff.mp es).1, dx, hs⟩
/-! ### small questions -/
def sp_one_more : Sp := fun vs H Q _ => ∃ (o : Option Nat), vs = [ov o] ∧ Q (.int (((o.map fun p => p + 1).getD 0 : Nat) : Int)) H
theorem ok_one_more (T : Txt n K mg) : FnOk P w K mg base CX0 1 n.f_one_more n.d_one_more ["number"] sp_one_more := by
  refine T.F_one_more.ok sc_one_more (fun vs H Q E h => ?_) (fun cdv A outer s H vs Q E hr h => ?_)
  · obtain ⟨o, rfl, _⟩ := h
    rfl
  · obtain ⟨o, rfl, k⟩ := h
    refine ⟨_, (pss_one (ps_ret (pe_ifExp (pt_cmp (pc_isN (pv 0))) pe_int (pe_op op_add (pv 0) pe_int)))), ?_⟩
    cases o with
    | none =>
      unfold ov
      wide_line with T
      exact k
    | some j =>
      unfold ov
      wide_line with T
      exact k
def sp_Record_had_state (n : Nm) : Sp := fun vs H Q _ => ∃ (r le lu : Addr) (c : Cell) (b : Book) (i : Nat), vs = [.ref r, .int i] ∧ RecAt n H r le lu c b ∧ Q (.bl (decide (i < b.n))) H
theorem ok_Record_had_state (T : Txt n K mg) : FnOk P w K mg base CX0 1 n.f_Record_had_state n.d_Record_had_state ["self", "i"] (sp_Record_had_state n) := by
  refine T.F_Record_had_state.ok sc_Record_had_state (fun vs H Q E h => ?_) (fun cdv A outer s H vs Q E hr h => ?_)
  · obtain ⟨r, le, lu, c, b, i, rfl, _⟩ := h
    rfl
  · obtain ⟨r, le, lu, c, b, i, rfl, R, k⟩ := h
    refine ⟨_, (pss_one (ps_ret (pe_cmpR op_lt (pv 1) (pe_callB len_lst (by rfl) T.no_len (by decide +kernel) (pa_cons (pe_fldK (K := K) (pv 0)) pa_nil)) (nomark _)))), ?_⟩
    obtain ⟨dr, hr_⟩ := R.rec_
    have hl := R.now.lst
    have e : b.n = c.2.length := R.now.len.symm
    wide_line with T using (hr_, hl, List.length_map)
    exact qb k (by rw [Bool.eq_iff_iff]; simp; omega)
def sp_Record_has_treaty (n : Nm) : Sp := fun vs H Q _ => ∃ (r le lu : Addr) (c : Cell) (b : Book) (t : Nat), vs = [.ref r, .int t] ∧ RecAt n H r le lu c b ∧ Q (.bl (decide (t < b.t))) H
theorem ok_Record_has_treaty (T : Txt n K mg) : FnOk P w K mg base CX0 1 n.f_Record_has_treaty n.d_Record_has_treaty ["self", "t"] (sp_Record_has_treaty n) := by
  refine T.F_Record_has_treaty.ok sc_Record_has_treaty (fun vs H Q E h => ?_) (fun cdv A outer s H vs Q E hr h => ?_)
  · obtain ⟨r, le, lu, c, b, t, rfl, _⟩ := h
    rfl
  · obtain ⟨r, le, lu, c, b, t, rfl, R, k⟩ := h
    refine ⟨_, (pss_one (ps_ret (pe_cmpR op_lt (pv 1) (pe_fldK (K := K) (pv 0)) (nomark _)))), ?_⟩
    obtain ⟨dr, hr_⟩ := R.rec_
    wide_line with T using hr_
    exact qb k (by rw [Bool.eq_iff_iff]; simp)
def sp_Record_is_full (n : Nm) : Sp := fun vs H Q _ => ∃ (r le lu : Addr) (c : Cell) (b : Book), vs = [.ref r] ∧ RecAt n H r le lu c b ∧ Q (.bl (decide (12 ≤ b.n))) H
theorem ok_Record_is_full (T : Txt n K mg) : FnOk P w K mg base CX0 1 n.f_Record_is_full n.d_Record_is_full ["self"] (sp_Record_is_full n) := by
  refine T.F_Record_is_full.ok sc_Record_is_full (fun vs H Q E h => ?_) (fun cdv A outer s H vs Q E hr h => ?_)
  · obtain ⟨r, le, lu, c, b, rfl, _⟩ := h
    rfl
  · obtain ⟨r, le, lu, c, b, rfl, R, k⟩ := h
    refine ⟨_, (pss_one (ps_ret (pe_cmpR op_ge (pe_callB len_lst (by rfl) T.no_len (by decide +kernel) (pa_cons (pe_fldK (K := K) (pv 0)) pa_nil)) (pe_gint rfl T.g_MOST_STATES) (nomark _)))), ?_⟩
    obtain ⟨dr, hr_⟩ := R.rec_
    have hl := R.now.lst
    have e : b.n = c.2.length := R.now.len.symm
    wide_line with T using (hr_, hl, List.length_map)
    exact qb k (by rw [Bool.eq_iff_iff]; simp; omega)
def sp_Record_has_state (n : Nm) : Sp := fun vs H Q _ => ∃ (r le lu : Addr) (c : Cell) (b : Book) (i : Nat), vs = [.ref r, .int i] ∧ RecAt n H r le lu c b ∧ BookOk b ∧ Q (.bl (b.there i)) H
theorem ok_Record_has_state (T : Txt n K mg) : FnOk P w K mg base CX0 2 n.f_Record_has_state n.d_Record_has_state ["self", "i"] (sp_Record_has_state n) := by
  refine T.F_Record_has_state.ok sc_Record_has_state (fun vs H Q E h => ?_) (fun cdv A outer s H vs Q E hr h => ?_)
  · obtain ⟨r, le, lu, c, b, i, rfl, _⟩ := h
    rfl
  · obtain ⟨r, le, lu, c, b, i, rfl, R, ok, k⟩ := h
    refine ⟨_, (pss_one (ps_ret (pe_and (pe_meth (pv 0) T.cl_Record T.M_Record_had_state (ok_Record_had_state T) (hr.mono (by decide)) T.b_Record_had_state .nil pass0 (pa_cons (pv 1) pa_nil)) (pe_one (pe_meth0 (pe_ix ix_lst (pe_fldK (K := K) (pv 0)) (pv 1) (by intro _ _; rfl)) T.cl_State T.M_State_is_there (ok_State_is_there T) (hr.mono (by decide)) T.b_State_is_there .nil pass0))))), ?_⟩
    obtain ⟨dr, hr_⟩ := R.rec_
    have hl := R.now.lst
    wide_line with T using hr_
    refine ⟨r, le, lu, c, b, i, rfl, R, ?_⟩
    wide_line with T using (hr_, hl)
    split
    · rename_i hi
      have e := get_at hi
      obtain ⟨a, dx, ha, hH⟩ := R.now.get e
      wide_line with T using (ha, hH)
      refine ⟨a, dx, _, rfl, hH, ?_⟩
      exact qb k (ok.st i _ e).tk
    · rename_i hi
      have hi : ¬ i < b.states.length := hi
      exact qb k (by unfold Book.there; rw [at_out (by omega)])
theorem bits_step (p : Nat → Bool) (k : Nat) : Km484.bits ((List.range (k + 1)).filter p) = if p k = true then Km484.bits ((List.range k).filter p) ||| 2 ^ k else Km484.bits ((List.range k).filter p) := by
  rw [range_filter_succ]
  split
  · rw [bits_or (nodup_range_filter k p) (by simp)]
  · rw [List.append_nil]
theorem alive_bound {b : Book} (ok : BookOk b) (t : Nat) : (b.alive.filter fun i => (b.at_ i).bound.testBit t) = (List.range b.n).filter fun i => (b.at_ i).bound.testBit t := by
  unfold Book.alive
  rw [List.filter_filter]
  congr 1
  funext i
  cases e : b.there i with
  | true => rw [Bool.and_true]
  | false =>
    rw [Bool.and_false]
    by_cases hi : i < b.states.length
    · have q := ((ok.st i _ (get_at hi)).gone e).1
      rw [q, Nat.zero_testBit]
    · rw [at_out (by omega)]
      exact (Nat.zero_testBit t).symm
theorem sum_cast : ∀ l : List State_, (l.map fun s => (s.owes : Int)).sum = ((owed l : Nat) : Int)
  | [] => rfl
  | s :: l => by
    have ih := sum_cast l
    unfold owed at ih ⊢
    rw [List.map_cons, List.sum_cons, List.map_cons, List.sum_cons, ih]
    omega
def Lp2 (pre : L2.St) (H : Hp) (σ : L2.St) (H' : Hp) : Prop := ∃ x y, σ = pre ++ [x, y] ∧ Ext H H'
/-- a turn of a while, by a word and a measure -/
def WB (Pv : L2.St → Hp → Prop) (μ : L2.St → Hp → Nat) (m : Nat) (tb : TS) (D : Ends) (σ : L2.St) (H1 : Hp) : Prop := ∃ N : L2.St → Hp → Prop, (∀ σ' H', N σ' H' → ∃ m', m' < m ∧ m' = μ σ' H' ∧ Pv σ' H') ∧ tb { D with nx := N, ct := N, bk := D.nx } σ H1
theorem WB.of {Pv : L2.St → Hp → Prop} {μ : L2.St → Hp → Nat} {m : Nat} {tb : TS} {D : Ends} {σ : L2.St} {H1 : Hp} (h : tb { D with nx := fun σ' H' => Pv σ' H' ∧ μ σ' H' < m, ct := fun σ' H' => Pv σ' H' ∧ μ σ' H' < m, bk := D.nx } σ H1) : WB Pv μ m tb D σ H1 := ⟨_, fun σ' H' p => ⟨_, p.2, rfl, p.1⟩, h⟩
theorem while_at {c : TT} {tb : TS} {D : Ends} {σ : L2.St} {H : Hp} (Pv : L2.St → Hp → Prop) (μ : L2.St → Hp → Nat) (h0 : Pv σ H) (hs : ∀ σ H, Pv σ H → c σ H fun b H1 => if b = true then WB Pv μ (μ σ H) tb D σ H1 else D.nx σ H1) : tWhile c tb D σ H :=
  ⟨fun m σ H => m = μ σ H ∧ Pv σ H, ⟨_, rfl, h0⟩, fun m σ H p => by
    obtain ⟨rfl, p⟩ := p
    exact hs σ H p⟩
def sp_Record_total_debt (n : Nm) : Sp := fun vs H Q _ => ∃ (r le lu : Addr) (c : Cell) (b : Book), vs = [.ref r] ∧ RecAt n H r le lu c b ∧ BookOk b ∧ ∀ H', Ext H H' → Q (.int (b.total : Nat)) H'
theorem ok_Record_total_debt (T : Txt n K mg) : FnOk P w K mg base CX0 1 n.f_Record_total_debt n.d_Record_total_debt ["self"] (sp_Record_total_debt n) := by
  refine T.F_Record_total_debt.ok sc_Record_total_debt (fun vs H Q E h => ?_) (fun cdv A outer s H vs Q E hr h => ?_)
  · obtain ⟨r, le, lu, c, b, rfl, _⟩ := h
    rfl
  · obtain ⟨r, le, lu, c, b, rfl, R, ok, k⟩ := h
    refine ⟨_, (pss_one (ps_ret (pe_callB (sum_lst rfl) (by rfl) T.no_sum (by decide +kernel) (pa_cons (pe_lc rfl sc_Record_total_debt.nd (own := [("state", 1)]) (pi_lst (pe_fldK (K := K) (pv 0))) (show BlkOk ["self", "state"] (defScope s_Record_total_debt) _ [("state", 1)] from ⟨rfl, by decide +kernel, by decide +kernel, by decide +kernel, by decide +kernel⟩) (fun _ _ _ _ _ => (pg_name (i := 1) sc_Record_total_debt.nd rfl (by first | exact Or.inl rfl | exact Or.inr rfl))) (fun _ _ _ _ _ => pts_nil) (fun _ _ _ _ _ => (pe_fldK (K := K) (pv 1)))) pa_nil)))), ?_⟩
    obtain ⟨dr, hr_⟩ := R.rec_
    have hl := R.now.lst
    have n12 := ok.n12
    wide_line with T
    refine tlc_at (J := Itl K c.1) (fun R' hR => ?_) (fun D hD => lc_list (K := K) (xs := c.2.map V.ref) (fun i H' => H' = upd H D (.lst ((b.states.take i).map fun s => V.int s.owes))) rfl (fun i H' _ e => ?_) (fun i x H' hx e => ?_) (fun H' e => ?_))
    · wide_line with T using (hr_, hl)
      exact hR
    · subst e
      exact SqL.of (upd_of hD hl)
    · subst e
      obtain ⟨a, rfl, ha, s, es, _, hi, dx, hs⟩ := R.walk hx
      have hs2 := upd_of (o := .lst ((b.states.take i).map fun s => V.int s.owes)) hD hs
      unfold flS at hs2
      wide_line with T using (hs2, wipe)
      refine ⟨by rw [List.length_map, List.length_take]; have : sizeLine = 16777216 := rfl; omega, ?_⟩
      rw [List.take_add_one, es, List.map_append]
      rfl
    · subst e
      rw [List.length_map, R.now.len, List.take_length]
      wide_line with T
      refine ⟨b.states.map fun s => (s.owes : Int), by rw [List.map_map]; rfl, ?_⟩
      rw [sum_cast, ← total_owed ok]
      exact k _ (.new hD)
def sp_Record_who_is_there (n : Nm) : Sp := fun vs H Q _ => ∃ (r le lu : Addr) (c : Cell) (b : Book), vs = [.ref r] ∧ RecAt n H r le lu c b ∧ BookOk b ∧ ∀ H', Ext H H' → Q (.int (Km484.bits b.alive : Nat)) H'
theorem ok_Record_who_is_there (T : Txt n K mg) : FnOk P w K mg base CX0 2 n.f_Record_who_is_there n.d_Record_who_is_there ["self"] (sp_Record_who_is_there n) := by
  refine T.F_Record_who_is_there.ok sc_Record_who_is_there (fun vs H Q E h => ?_) (fun cdv A outer s H vs Q E hr h => ?_)
  · obtain ⟨r, le, lu, c, b, rfl, _⟩ := h
    rfl
  · obtain ⟨r, le, lu, c, b, rfl, R, ok, k⟩ := h
    refine ⟨_, (pss_cons (ps_set (i := 1) sc_Record_who_is_there.nd rfl (by first | exact Or.inl rfl | exact Or.inr rfl) pe_int) (pss_cons (ps_for PassesOwn.never rfl (pi_enum rfl T.no_enumerate (pa_cons (pe_fldK (K := K) (pv 0)) pa_nil)) (pg_tup rfl (pgs_cons (pg_name (i := 2) sc_Record_who_is_there.nd rfl (by first | exact Or.inl rfl | exact Or.inr rfl)) (pgs_cons (pg_name (i := 3) sc_Record_who_is_there.nd rfl (by first | exact Or.inl rfl | exact Or.inr rfl)) pgs_nil))) (pss_one (ps_if (pt_val (pe_meth0 (pv 3) T.cl_State T.M_State_is_there (ok_State_is_there T) (hr.mono (by decide)) T.b_State_is_there .nil pass0)) (pss_one (ps_set (i := 1) sc_Record_who_is_there.nd rfl (by first | exact Or.inl rfl | exact Or.inr rfl) (pe_call (ok_with_one T) (hr.mono (by decide)) rfl T.m_with_one T.F_with_one.kp T.b_with_one .nil pass0 (pa_cons (pv 2) (pa_cons (pv 1) pa_nil))))) pss_nil))) (pss_one (ps_ret (pv 1))))), ?_⟩
    obtain ⟨dr, hr_⟩ := R.rec_
    have hl := R.now.lst
    have n12 := ok.n12
    wide_line with T
    refine tfor_at (J := Ite K c.1) (fun R' hR => ?_) (for_enum (xs := c.2.map V.ref) (fun i => Lp2 [some (.ref r), some (.int (Km484.bits ((List.range i).filter b.there) : Nat))] H) ⟨_, _, rfl, .refl H⟩ (fun i σ H' _ ⟨_, _, _, x⟩ => SqL.of (x _ _ hl)) ?_ ?_)
    · unfold iEnum
      wide_line with T using hr_
      exact ⟨⟨_, SqL.of hl⟩, hR⟩
    · rintro i x σ H' D hx hD ⟨y1, y2, rfl, X⟩
      obtain ⟨a, rfl, ha, s, es, ea, hi, dx, hs⟩ := R.walk hx
      have hi : i < b.states.length := hi
      have hs2 := upd_of (o := .tup [.int (i : Nat), .ref a]) hD (X _ _ hs)
      have et : b.there i = s.taken.isNone := by unfold Book.there; rw [ea]; exact (ok.st i s es).tk
      refine ⟨D, _, rfl, SqT.of upd_same, rfl, ?_⟩
      wide_line with T using hs2
      refine ⟨a, dx, s, rfl, hs2, ?_⟩
      rw [← et]
      wide_line with T
      split
      · rename_i h
        exact ⟨i, _, rfl, by omega, _, _, by rw [bits_step, if_pos h]; rfl, X.trans (.new hD)⟩
      · rename_i h
        exact ⟨_, _, by rw [bits_step, if_neg h]; rfl, X.trans (.new hD)⟩
    · rintro σ H' ⟨y1, y2, rfl, X⟩
      wide_line with T
      rw [List.length_map, R.now.len]
      exact k H' X
def sp_Record_who_is_bound (n : Nm) : Sp := fun vs H Q _ => ∃ (r le lu : Addr) (c : Cell) (b : Book) (t : Nat), vs = [.ref r, .int t] ∧ RecAt n H r le lu c b ∧ BookOk b ∧ ∀ H', Ext H H' → Q (.int (Km484.bits (b.alive.filter fun i => (b.at_ i).bound.testBit t) : Nat)) H'
theorem ok_Record_who_is_bound (T : Txt n K mg) : FnOk P w K mg base CX0 2 n.f_Record_who_is_bound n.d_Record_who_is_bound ["self", "t"] (sp_Record_who_is_bound n) := by
  refine T.F_Record_who_is_bound.ok sc_Record_who_is_bound (fun vs H Q E h => ?_) (fun cdv A outer s H vs Q E hr h => ?_)
  · obtain ⟨r, le, lu, c, b, t, rfl, _⟩ := h
    rfl
  · obtain ⟨r, le, lu, c, b, t, rfl, R, ok, k⟩ := h
    refine ⟨_, (pss_cons (ps_set (i := 2) sc_Record_who_is_bound.nd rfl (by first | exact Or.inl rfl | exact Or.inr rfl) pe_int) (pss_cons (ps_for PassesOwn.never rfl (pi_enum rfl T.no_enumerate (pa_cons (pe_fldK (K := K) (pv 0)) pa_nil)) (pg_tup rfl (pgs_cons (pg_name (i := 3) sc_Record_who_is_bound.nd rfl (by first | exact Or.inl rfl | exact Or.inr rfl)) (pgs_cons (pg_name (i := 4) sc_Record_who_is_bound.nd rfl (by first | exact Or.inl rfl | exact Or.inr rfl)) pgs_nil))) (pss_one (ps_if (pt_val (pe_call (ok_is_in T) (hr.mono (by decide)) rfl T.m_is_in T.F_is_in.kp T.b_is_in .nil pass0 (pa_cons (pv 1) (pa_cons (pe_fldK (K := K) (pv 4)) pa_nil)))) (pss_one (ps_set (i := 2) sc_Record_who_is_bound.nd rfl (by first | exact Or.inl rfl | exact Or.inr rfl) (pe_call (ok_with_one T) (hr.mono (by decide)) rfl T.m_with_one T.F_with_one.kp T.b_with_one .nil pass0 (pa_cons (pv 3) (pa_cons (pv 2) pa_nil))))) pss_nil))) (pss_one (ps_ret (pv 2))))), ?_⟩
    obtain ⟨dr, hr_⟩ := R.rec_
    have hl := R.now.lst
    have n12 := ok.n12
    rw [alive_bound ok t] at k
    wide_line with T
    refine tfor_at (J := Ite K c.1) (fun R' hR => ?_) (for_enum (xs := c.2.map V.ref) (fun i => Lp2 [some (.ref r), some (.int t), some (.int (Km484.bits ((List.range i).filter fun i => (b.at_ i).bound.testBit t) : Nat))] H) ⟨_, _, rfl, .refl H⟩ (fun i σ H' _ ⟨_, _, _, x⟩ => SqL.of (x _ _ hl)) ?_ ?_)
    · unfold iEnum
      wide_line with T using hr_
      exact ⟨⟨_, SqL.of hl⟩, hR⟩
    · rintro i x σ H' D hx hD ⟨y1, y2, rfl, X⟩
      obtain ⟨a, rfl, ha, s, es, ea, hi, dx, hs⟩ := R.walk hx
      have hi : i < b.states.length := hi
      have hs2 := upd_of (o := .tup [.int (i : Nat), .ref a]) hD (X _ _ hs)
      unfold flS at hs2
      refine ⟨D, _, rfl, SqT.of upd_same, rfl, ?_⟩
      wide_line with T using hs2
      refine ⟨t, s.bound, rfl, ?_⟩
      rw [← ea]
      wide_line with T
      split
      · rename_i h
        exact ⟨i, _, rfl, by omega, _, _, by rw [bits_step, if_pos h]; rfl, X.trans (.new hD)⟩
      · rename_i h
        exact ⟨_, _, by rw [bits_step, if_neg h]; rfl, X.trans (.new hD)⟩
    · rintro σ H' ⟨y1, y2, rfl, X⟩
      wide_line with T
      rw [List.length_map, R.now.len]
      exact k H' X
/-! ### lines -/
def behind (b : Book) : Option Nat → List Nat
  | none => []
  | some p => b.lineOf p
theorem line_behind {b : Book} (ok : BookOk b) (i : Nat) : b.lineOf i = i :: behind b (b.at_ i).parent := by
  cases e : (b.at_ i).parent with
  | none => exact line_none e
  | some p => exact line_some ok e
def LnI (b : Book) (r : Addr) (i : Nat) (H : Hp) (σ : L2.St) (H' : Hp) : Prop := ∃ (pre : List Nat) (o : Option Nat), σ = [some (.ref r), some (.int i), some (.int (Km484.bits pre : Nat)), some (ov o)] ∧ H' = H ∧ b.lineOf i = pre ++ behind b o ∧ ∀ p, o = some p → p < b.states.length
def lnM (σ : L2.St) (_ : Hp) : Nat := match σ with | [_, _, _, some (.int p)] => p.toNat + 1 | _ => 0
def sp_Record_line (n : Nm) : Sp := fun vs H Q _ => ∃ (r le lu : Addr) (c : Cell) (b : Book) (i : Nat), vs = [.ref r, .int i] ∧ RecAt n H r le lu c b ∧ BookOk b ∧ i < b.n ∧ Q (.int (Km484.bits (b.lineOf i) : Nat)) H
theorem ok_Record_line (T : Txt n K mg) : FnOk P w K mg base CX0 2 n.f_Record_line n.d_Record_line ["self", "i"] (sp_Record_line n) := by
  refine T.F_Record_line.ok sc_Record_line (fun vs H Q E h => ?_) (fun cdv A outer s H vs Q E hr h => ?_)
  · obtain ⟨r, le, lu, c, b, i, rfl, _⟩ := h
    rfl
  · obtain ⟨r, le, lu, c, b, i, rfl, R, ok, hi, k⟩ := h
    refine ⟨_, (pss_cons (ps_set (i := 2) sc_Record_line.nd rfl (by first | exact Or.inl rfl | exact Or.inr rfl) (pe_call (ok_with_one T) (hr.mono (by decide)) rfl T.m_with_one T.F_with_one.kp T.b_with_one .nil pass0 (pa_cons (pv 1) (pa_cons pe_int pa_nil)))) (pss_cons (ps_set (i := 3) sc_Record_line.nd rfl (by first | exact Or.inl rfl | exact Or.inr rfl) (pe_fldK (K := K) (pe_ix ix_lst (pe_fldK (K := K) (pv 0)) (pv 1) (by intro _ _; rfl)))) (pss_cons (ps_while PassesOwn.never (pt_cmp (pc_notN (pv 3))) (pss_cons (ps_set (i := 2) sc_Record_line.nd rfl (by first | exact Or.inl rfl | exact Or.inr rfl) (pe_call (ok_with_one T) (hr.mono (by decide)) rfl T.m_with_one T.F_with_one.kp T.b_with_one .nil pass0 (pa_cons (pv 3) (pa_cons (pv 2) pa_nil)))) (pss_one (ps_set (i := 3) sc_Record_line.nd rfl (by first | exact Or.inl rfl | exact Or.inr rfl) (pe_fldK (K := K) (pe_ix ix_lst (pe_fldK (K := K) (pv 0)) (pv 3) (by intro _ _; rfl))))))) (pss_one (ps_ret (pv 2)))))), ?_⟩
    obtain ⟨dr, hr_⟩ := R.rec_
    have hl := R.now.lst
    have n12 := ok.n12
    have hi : i < b.states.length := hi
    obtain ⟨a, dx, ha, hs⟩ := R.now.get (get_at hi)
    unfold flS at hs
    wide_line with T
    refine ⟨i, 0, rfl, by omega, ?_⟩
    wide_line with T using (hr_, hl, ha, hs)
    refine while_at (LnI b r i H) lnM ⟨[i], (b.at_ i).parent, ?_, rfl, line_behind ok i, ?_⟩ ?_
    · rw [bits_cons, bits_nil, Nat.zero_or, Nat.zero_add]
    · intro p hp
      have := par_lt ok hp
      omega
    · rintro σ H' ⟨pre, o, rfl, rfl, e, hp⟩
      wide_line with T
      rw [ov_not]
      cases o with
      | none =>
        rw [if_neg (by simp)]
        have e : b.lineOf i = pre := by rw [e]; exact List.append_nil _
        rw [← e]
        exact k
      | some p =>
        rw [if_pos (by rfl)]
        refine WB.of ?_
        have hp := hp p rfl
        obtain ⟨a', dx', ha', hs'⟩ := R.now.get (get_at hp)
        unfold flS at hs'
        wide_line with T
        refine ⟨p, Km484.bits pre, rfl, by omega, ?_⟩
        wide_line with T using (hr_, hl, ov_some, ha', hs')
        have e2 : b.lineOf i = (pre ++ [p]) ++ behind b (b.at_ p).parent := by
          rw [e, List.append_assoc]
          show pre ++ b.lineOf p = _
          rw [line_behind ok p]
          rfl
        have nd := line_nodup ok i
        rw [e2] at nd
        have nd2 := (List.nodup_append.mp nd).1
        have nd3 := List.nodup_append.mp nd2
        refine ⟨⟨pre ++ [p], (b.at_ p).parent, ?_, rfl, e2, ?_⟩, ?_⟩
        · rw [bits_or nd3.1 (fun m => nd3.2.2 p m p (List.mem_singleton.mpr rfl) rfl)]
        · intro q hq
          have := par_lt ok hq
          omega
        · cases e3 : (b.at_ p).parent with
          | none => simp [lnM, ov]
          | some q =>
            have := (par_lt ok e3).1
            simp [lnM, ov]
            omega
def EuI (b : Book) (r : Addr) (i : Nat) (H : Hp) (σ : L2.St) (H' : Hp) : Prop := ∃ (j : Nat), σ = [some (.ref r), some (.int j)] ∧ H' = H ∧ j < b.states.length ∧ b.up b.n i = b.up b.n j
def euM (b : Book) (tm : Nat → Nat) (σ : L2.St) (_ : Hp) : Nat := match σ with | [_, some (.int j)] => need b tm j.toNat | _ => 0
def sp_Record_ends_up_in (n : Nm) : Sp := fun vs H Q _ => ∃ (r le lu : Addr) (c : Cell) (b : Book) (i : Nat), vs = [.ref r, .int i] ∧ RecAt n H r le lu c b ∧ BookOk b ∧ i < b.n ∧ Q (.int (b.up b.n i : Nat)) H
theorem ok_Record_ends_up_in (T : Txt n K mg) : FnOk P w K mg base CX0 2 n.f_Record_ends_up_in n.d_Record_ends_up_in ["self", "i"] (sp_Record_ends_up_in n) := by
  refine T.F_Record_ends_up_in.ok sc_Record_ends_up_in (fun vs H Q E h => ?_) (fun cdv A outer s H vs Q E hr h => ?_)
  · obtain ⟨r, le, lu, c, b, i, rfl, _⟩ := h
    rfl
  · obtain ⟨r, le, lu, c, b, i, rfl, R, ok, hi, k⟩ := h
    refine ⟨_, (pss_cons (ps_while PassesOwn.never (pt_not (pt_val (pe_meth0 (pe_ix ix_lst (pe_fldK (K := K) (pv 0)) (pv 1) (by intro _ _; rfl)) T.cl_State T.M_State_is_there (ok_State_is_there T) (hr.mono (by decide)) T.b_State_is_there .nil pass0))) (pss_one (ps_set (i := 1) sc_Record_ends_up_in.nd rfl (by first | exact Or.inl rfl | exact Or.inr rfl) (pe_fldK (K := K) (pe_ix ix_lst (pe_fldK (K := K) (pv 0)) (pv 1) (by intro _ _; rfl)))))) (pss_one (ps_ret (pv 1)))), ?_⟩
    obtain ⟨dr, hr_⟩ := R.rec_
    have hl := R.now.lst
    have n12 := ok.n12
    obtain ⟨tm, T'⟩ := ok.time
    wide_line with T
    refine while_at (EuI b r i H) (euM b tm) ⟨i, rfl, rfl, hi, rfl⟩ ?_
    rintro σ H' ⟨j, rfl, rfl, hj, e⟩
    obtain ⟨a, dx, ha, hs⟩ := R.now.get (get_at hj)
    wide_line with T using (hr_, hl, ha, hs)
    refine ⟨a, dx, _, rfl, hs, ?_⟩
    wide_line with T
    unfold flS at hs
    cases et : (b.at_ j).taken with
    | none =>
      rw [if_neg (by simp)]
      rw [e, up_none et] at k
      exact k
    | some q =>
      rw [if_pos (by rfl)]
      refine WB.of ?_
      rw [et] at hs
      wide_line with T using (hr_, hl, ha, hs, ov_some)
      exact ⟨⟨q, rfl, rfl, (tk_lt ok et).1, by rw [e, up_some ok et]⟩, (need_lt ok T' et).1⟩
def HrI (b : Book) (r : Addr) (i j : Nat) (H : Hp) (σ : L2.St) (H' : Hp) : Prop := ∃ (m : Nat) (x : Option V), σ = [some (.ref r), some (.int i), some (.int m), x] ∧ H' = H ∧ ∀ x, m.testBit x = true ↔ ∃ z, z < j ∧ i ∈ b.lineOf z ∧ b.up b.n z = x
def sp_Record_heirs (n : Nm) : Sp := fun vs H Q _ => ∃ (r le lu : Addr) (c : Cell) (b : Book) (i : Nat), vs = [.ref r, .int i] ∧ RecAt n H r le lu c b ∧ BookOk b ∧ i < b.n ∧ Q (.int (Km484.bits (b.heirs i) : Nat)) H
theorem ok_Record_heirs (T : Txt n K mg) : FnOk P w K mg base CX0 3 n.f_Record_heirs n.d_Record_heirs ["self", "i"] (sp_Record_heirs n) := by
  refine T.F_Record_heirs.ok sc_Record_heirs (fun vs H Q E h => ?_) (fun cdv A outer s H vs Q E hr h => ?_)
  · obtain ⟨r, le, lu, c, b, i, rfl, _⟩ := h
    rfl
  · obtain ⟨r, le, lu, c, b, i, rfl, R, ok, hi, k⟩ := h
    refine ⟨_, (pss_cons (ps_set (i := 2) sc_Record_heirs.nd rfl (by first | exact Or.inl rfl | exact Or.inr rfl) pe_int) (pss_cons (ps_for PassesOwn.never rfl (pi_range1 rfl T.no_range (pa_cons (pe_callB len_lst (by rfl) T.no_len (by decide +kernel) (pa_cons (pe_fldK (K := K) (pv 0)) pa_nil)) pa_nil)) (pg_name (i := 3) sc_Record_heirs.nd rfl (by first | exact Or.inl rfl | exact Or.inr rfl)) (pss_one (ps_if (pt_val (pe_call (ok_is_in T) (hr.mono (by decide)) rfl T.m_is_in T.F_is_in.kp T.b_is_in .nil pass0 (pa_cons (pv 1) (pa_cons (pe_meth (pv 0) T.cl_Record T.M_Record_line (ok_Record_line T) (hr.mono (by decide)) T.b_Record_line .nil pass0 (pa_cons (pv 3) pa_nil)) pa_nil)))) (pss_one (ps_set (i := 2) sc_Record_heirs.nd rfl (by first | exact Or.inl rfl | exact Or.inr rfl) (pe_call (ok_with_one T) (hr.mono (by decide)) rfl T.m_with_one T.F_with_one.kp T.b_with_one .nil pass0 (pa_cons (pe_meth (pv 0) T.cl_Record T.M_Record_ends_up_in (ok_Record_ends_up_in T) (hr.mono (by decide)) T.b_Record_ends_up_in .nil pass0 (pa_cons (pv 3) pa_nil)) (pa_cons (pv 2) pa_nil))))) pss_nil))) (pss_one (ps_ret (pv 2))))), ?_⟩
    obtain ⟨dr, hr_⟩ := R.rec_
    have hl := R.now.lst
    have n12 := ok.n12
    have hn : b.n = c.2.length := R.now.len.symm
    obtain ⟨tm, T'⟩ := ok.time
    wide_line with T
    have hn' : b.states.length = c.2.length := R.now.len.symm
    refine tfor_at (J := Itr 0 c.2.length) (fun R' hR => ?_) (for_range (fun j => HrI b r i j H) ⟨0, _, rfl, rfl, fun x => ?_⟩ ?_ ?_)
    · wide_line with T using (hr_, hl, List.length_map)
      exact ⟨by omega, by omega, hR⟩
    · rw [Nat.zero_testBit]
      simp
    · rintro j σ H' hj ⟨m, x, rfl, rfl, e⟩
      have hj : j < b.states.length := by have : b.n = b.states.length := rfl; omega
      rw [show (0 : Int) + (j : Int) = ((j : Nat) : Int) by omega]
      wide_line with T using hr_
      refine ⟨r, le, lu, c, b, j, rfl, R, ok, hj, ?_⟩
      wide_line with T
      refine ⟨i, _, rfl, ?_⟩
      rw [bits_bit (line_nodup ok j)]
      wide_line with T
      split
      · rename_i h
        wide_line with T using hr_
        refine ⟨r, le, lu, c, b, j, rfl, R, ok, hj, ?_⟩
        wide_line with T
        have ut := up_there ok T' _ j (Nat.le_refl _) hj
        refine ⟨_, m, rfl, by omega, _, _, rfl, rfl, fun x => ?_⟩
        rw [Nat.testBit_or, Nat.testBit_two_pow, Bool.or_eq_true, e, decide_eq_true_eq]
        constructor
        · rintro (⟨z, h1, h2, h3⟩ | h3)
          · exact ⟨z, by omega, h2, h3⟩
          · exact ⟨j, by omega, h, h3⟩
        · rintro ⟨z, h1, h2, h3⟩
          by_cases hz : z = j
          · subst hz; exact .inr h3
          · exact .inl ⟨z, by omega, h2, h3⟩
      · rename_i h
        refine ⟨m, _, rfl, rfl, fun x => ?_⟩
        rw [e]
        constructor
        · rintro ⟨z, h1, h2, h3⟩
          exact ⟨z, by omega, h2, h3⟩
        · rintro ⟨z, h1, h2, h3⟩
          by_cases hz : z = j
          · subst hz; exact absurd h2 h
          · exact ⟨z, by omega, h2, h3⟩
    · rintro σ H' ⟨m, x, rfl, rfl, e⟩
      wide_line with T
      rw [heirs_bits ok (i := i) (m := m) (fun x => by rw [e, hn])]
      exact k
theorem few_line {k : Nat} (h : k ≤ 1000) : k < sizeLine := by
  have : sizeLine = 16777216 := rfl
  omega
def sp_Record_begin (n : Nm) : Sp := fun vs H Q _ => ∃ (r dx : Addr) (fs : List (Str × V)) (j t : Nat), vs = [.ref r, .int j, .int t] ∧ H r = some (.ins n.c_Record dx fs) ∧ (fs = [] ∨ ∃ a b c d, fs = fl_Record a b c d) ∧ j ≤ 4 ∧ ∀ H' A, A.r = r → DeskAt n H' A ⟨Km484.opened j t, [], []⟩ → Fr [r] H A.foot H' → Q .non H'
theorem ok_Record_begin (T : Txt n K mg) : FnOk P w K mg base CX0 3 n.f_Record_begin n.d_Record_begin ["self", "n", "t"] (sp_Record_begin n) := by
  refine T.F_Record_begin.ok sc_Record_begin (fun vs H Q E h => ?_) (fun cdv A outer s H vs Q E hr h => ?_)
  · obtain ⟨r, dx, fs, j, t, rfl, _⟩ := h
    rfl
  · obtain ⟨r, dx, fs, j, t, rfl, hp, hfs, hj, k⟩ := h
    refine ⟨_, (pss_cons (ps_fld (pv 0) (pv 2) rfl) (pss_cons (ps_fld (pv 0) (pe_lc rfl sc_Record_begin.nd (own := [("number", 3)]) (pi_range1 rfl T.no_range (pa_cons (pv 1) pa_nil)) (show BlkOk ["self", "n", "t", "number"] (defScope s_Record_begin) _ [("number", 3)] from ⟨rfl, by decide +kernel, by decide +kernel, by decide +kernel, by decide +kernel⟩) (fun _ _ _ _ _ => (pg_name (i := 3) sc_Record_begin.nd rfl (by first | exact Or.inl rfl | exact Or.inr rfl))) (fun _ _ _ _ _ => pts_nil) (fun _ _ _ _ _ => (pe_make T.mk_State (ok_State_init T) (hr.mono (by decide)) rfl T.m_State T.b_State_init .nil pass0 (pa_cons pe_int (pa_cons pe_int (pa_cons pe_int (pa_cons pe_non pa_nil))))))) rfl) (pss_cons (ps_fld (pv 0) (pe_lst pa_nil) rfl) (pss_one (ps_fld (pv 0) (pe_lst pa_nil) rfl))))), ?_⟩
    have h0 : fs.length < 1000 := by
      rcases hfs with e | ⟨a, b, c, d, e⟩ <;> subst e
      · decide
      · show 4 < 1000; decide
    have h1 : ∀ v, (putF ("treaties" : Str) v fs).length < 1000 := fun v => by
      rcases hfs with e | ⟨a, b, c, d, e⟩ <;> subst e
      · show 1 < 1000; decide
      · show 4 < 1000; decide
    have h2 : ∀ v u, (putF ("states" : Str) u (putF ("treaties" : Str) v fs)).length < 1000 := fun v u => by
      rcases hfs with e | ⟨a, b, c, d, e⟩ <;> subst e
      · show 2 < 1000; decide
      · show 4 < 1000; decide
    have h3 : ∀ v u y, (putF ("earlier" : Str) y (putF ("states" : Str) u (putF ("treaties" : Str) v fs))).length < 1000 := fun v u y => by
      rcases hfs with e | ⟨a, b, c, d, e⟩ <;> subst e
      · show 3 < 1000; decide
      · show 4 < 1000; decide
    have h4 : ∀ v u y z, putF ("undone" : Str) z (putF ("earlier" : Str) y (putF ("states" : Str) u (putF ("treaties" : Str) v fs))) = fl_Record v u y z := fun v u y z => by
      rcases hfs with e | ⟨a, b, c, d, e⟩ <;> subst e <;> rfl
    wide_line with T using (hp, h0)
    refine tlc_at (J := Itr 0 j) (fun R' hR => ?_) (fun D hD => lc_range (CpI n (upd H r (.ins n.c_Record dx (putF ("treaties" : Str) (.int t) fs))) D (List.replicate j st0)) (CpI.zero hD) (fun i H' hi c => ?_) (fun H' c => ?_))
    · wide_line with T
      exact ⟨by omega, by omega, hR⟩
    · wide_line with T using wipe
      intro x dx' hx hdx hne
      refine ⟨x, dx', _, _, _, _, rfl, upd_same, rfl, ?_⟩
      have hs : (List.replicate j st0)[i]? = some st0 := by rw [List.getElem?_replicate, if_pos hi]
      obtain ⟨as, hl, ha, c'⟩ := c.step hD hs hx hdx
      rw [upd_upd]
      exact ⟨_, ha, by rw [List.length_map]; exact few_line (by omega), c'⟩
    · have hr1 : upd H r (.ins n.c_Record dx (putF ("treaties" : Str) (.int t) fs)) r = some (.ins n.c_Record dx (putF ("treaties" : Str) (.int t) fs)) := upd_same
      obtain ⟨as, C⟩ := id c
      have hr2 := C.ext _ _ hr1
      wide_line with T using (hr2, h1)
      intro le hle
      have nle : r ≠ le := ne_of_none upd_same hle
      have hr3 := upd_of (o := .lst []) hle (upd_same (H := H') (a := r) (o := .ins n.c_Record dx (putF ("states" : Str) (.ref D) (putF ("treaties" : Str) (.int t) fs))))
      wide_line with T using (hr3, h2)
      intro lu hlu
      have nlu : r ≠ lu := ne_of_none upd_same hlu
      rw [upd_ne nlu.symm] at hlu
      have nll : le ≠ lu := ne_of_none upd_same hlu
      rw [upd_ne nll.symm, upd_ne nlu.symm] at hlu
      rw [upd_ne nle.symm] at hle
      have hr4 : upd (upd (upd (upd H' r (.ins n.c_Record dx (putF ("states" : Str) (.ref D) (putF ("treaties" : Str) (.int t) fs)))) le (.lst [])) r (.ins n.c_Record dx (putF ("earlier" : Str) (.ref le) (putF ("states" : Str) (.ref D) (putF ("treaties" : Str) (.int t) fs))))) lu (.lst []) r = some (.ins n.c_Record dx (putF ("earlier" : Str) (.ref le) (putF ("states" : Str) (.ref D) (putF ("treaties" : Str) (.int t) fs)))) := by
        rw [upd_ne nlu, upd_same]
      wide_line with T using (hr4, h3, h4)
      obtain ⟨A, hA, DA, fr⟩ := start_desk (H := H) (t := t) (H5 := upd (upd (upd (upd (upd H' r (.ins n.c_Record dx (putF ("states" : Str) (.ref D) (putF ("treaties" : Str) (.int t) fs)))) le (.lst [])) r (.ins n.c_Record dx (putF ("earlier" : Str) (.ref le) (putF ("states" : Str) (.ref D) (putF ("treaties" : Str) (.int t) fs))))) lu (.lst [])) r (.ins n.c_Record dx (fl_Record (.int t) (.ref D) (.ref le) (.ref lu)))) (fun b hb => upd_ne hb) hr1 hD c hle hlu nll upd_same (by rw [upd_ne nle.symm, upd_ne nll, upd_ne nle.symm, upd_same]) (by rw [upd_ne nlu.symm, upd_same]) (fun x x1 x2 x3 => by rw [upd_ne x1, upd_ne x3, upd_ne x1, upd_ne x2, upd_ne x1])
      exact k _ A hA DA fr
def sp_Record_init (n : Nm) : Sp := fun vs H Q _ => ∃ (r dx : Addr), vs = [.ref r] ∧ H r = some (.ins n.c_Record dx []) ∧ ∀ H' A, A.r = r → DeskAt n H' A ⟨Km484.opened 0 0, [], []⟩ → Fr [r] H A.foot H' → Q .non H'
theorem ok_Record_init (T : Txt n K mg) : FnOk P w K mg base CX0 4 n.f_Record_init n.d_Record_init ["self"] (sp_Record_init n) := by
  refine T.F_Record_init.ok sc_Record_init (fun vs H Q E h => ?_) (fun cdv A outer s H vs Q E hr h => ?_)
  · obtain ⟨r, dx, rfl, _⟩ := h
    rfl
  · obtain ⟨r, dx, rfl, hp, k⟩ := h
    refine ⟨_, (pss_one (ps_expr (pe_meth (pv 0) T.cl_Record T.M_Record_begin (ok_Record_begin T) (hr.mono (by decide)) T.b_Record_begin .nil pass0 (pa_cons pe_int (pa_cons pe_int pa_nil))))), ?_⟩
    wide_line with T using hp
    refine ⟨rfl, r, dx, [], 0, 0, rfl, hp, .inl rfl, by decide, ?_⟩
    exact k
def sp_Record_part (n : Nm) : Sp := fun vs H Q _ => ∃ (r le lu : Addr) (c : Cell) (b : Book) (i mode p q : Nat), vs = [.ref r, .int i, .int mode, .int p, .int q] ∧ RecAt n H r le lu c b ∧ BookOk b ∧ b.there i = true ∧ b.n < 12 ∧ Km484.okParts p q = true ∧
  ∀ H' c', Fr (r :: foot c) H (r :: foot c') H' → RecAt n H' r le lu c' (b.parted i mode p q) → Q (.int (b.n : Nat)) H'
theorem ok_Record_part (T : Txt n K mg) : FnOk P w K mg base CX0 3 n.f_Record_part n.d_Record_part ["self", "i", "mode", "p", "q"] (sp_Record_part n) := by
  refine T.F_Record_part.ok sc_Record_part (fun vs H Q E h => ?_) (fun cdv A outer s H vs Q E hr h => ?_)
  · obtain ⟨r, le, lu, c, b, i, mode, p, q, rfl, _⟩ := h
    rfl
  · obtain ⟨r, le, lu, c, b, i, mode, p, q, rfl, R, ok, hi, hn, hpq, k⟩ := h
    refine ⟨_, (pss_cons (ps_set (i := 5) sc_Record_part.nd rfl (by first | exact Or.inl rfl | exact Or.inr rfl) (pe_ix ix_lst (pe_fldK (K := K) (pv 0)) (pv 1) (by intro _ _; rfl))) (pss_cons (ps_set (i := 6) sc_Record_part.nd rfl (by first | exact Or.inl rfl | exact Or.inr rfl) (pe_call (ok_kept_share T) (hr.mono (by decide)) rfl T.m_kept_share T.F_kept_share.kp T.b_kept_share .nil pass0 (pa_cons (pe_fldK (K := K) (pv 5)) (pa_cons (pv 3) (pa_cons (pv 4) pa_nil))))) (pss_cons (ps_set (i := 7) sc_Record_part.nd rfl (by first | exact Or.inl rfl | exact Or.inr rfl) (pe_ifExp (pt_cmpR op_eq (pv 2) pe_int (nomark _)) (pe_fldK (K := K) (pv 5)) pe_int)) (pss_cons (ps_expr (pe_lm PySem.F.slot_list_append PySem.F.type_list_append mt_append (pe_fldK (K := K) (pv 0)) (pa_cons (pe_make T.mk_State (ok_State_init T) (hr.mono (by decide)) rfl T.m_State T.b_State_init .nil pass0 (pa_cons (pv 7) (pa_cons (pe_fldK (K := K) (pv 5)) (pa_cons (pe_op op_sub (pe_fldK (K := K) (pv 5)) (pv 6)) (pa_cons (pv 1) pa_nil))))) pa_nil))) (pss_cons (ps_fld (pv 5) (pv 6) rfl) (pss_one (ps_ret (pe_op op_sub (pe_callB len_lst (by rfl) T.no_len (by decide +kernel) (pa_cons (pe_fldK (K := K) (pv 0)) pa_nil)) pe_int)))))))), ?_⟩
    obtain ⟨dr, hr_⟩ := R.rec_
    have hl := R.now.lst
    obtain ⟨s, es, _, ea⟩ := there_some hi
    obtain ⟨a, dx, ha, hs⟩ := R.now.get es
    have hs0 := hs
    unfold flS at hs
    have ow : s.owes ≤ 10000000 := Nat.le_trans (owes_le es) ok.tot
    have len := R.now.len
    have il : i < b.states.length := (List.getElem?_eq_some_iff.mp es).1
    unfold Km484.okParts at hpq
    simp only [Bool.and_eq_true, decide_eq_true_eq] at hpq
    have hn : b.states.length < 12 := hn
    wide_line with T using (hr_, hl, ha, hs)
    refine ⟨s.owes, p, q, rfl, ow, by omega, by omega, ?_⟩
    have hkl : s.owes * p / (p + q) ≤ s.owes := by
      refine Nat.div_le_of_le_mul ?_
      rw [Nat.mul_comm]
      exact Nat.mul_le_mul_right _ (by omega)
    have hsub : ((s.owes : Nat) : Int) - ((s.owes * p / (p + q) : Nat) : Int) = ((s.owes - s.owes * p / (p + q) : Nat) : Int) := by omega
    by_cases hm : (mode : Int) = 1
    · have hm' : mode = 1 := by omega
      wide_line with T using (hr_, hl, ha, hs, hm, hsub)
      intro q' dq hq hdq hne
      refine ⟨q', dq, _, _, _, _, rfl, upd_same, rfl, ?_⟩
      obtain ⟨R2, f2⟩ : RecAt n (upd (upd (upd H dq (.own q')) q' (.ins n.c_State dq (fl_State (.int s.bound) (.int s.bound) (.int ((s.owes - s.owes * p / (p + q) : Nat) : Int)) (.int i) .non))) c.1 (.lst (c.2.map V.ref ++ [.ref q']))) r le lu (c.1, c.2 ++ [q']) ⟨b.t, b.states ++ [⟨true, if mode = 1 then s.bound else 0, s.bound, s.owes - s.owes * p / (p + q), some i, none⟩]⟩ ∧ Fr (r :: foot c) H (r :: foot (c.1, c.2 ++ [q'])) (upd (upd (upd H dq (.own q')) q' (.ins n.c_State dq (fl_State (.int s.bound) (.int s.bound) (.int ((s.owes - s.owes * p / (p + q) : Nat) : Int)) (.int i) .non))) c.1 (.lst (c.2.map V.ref ++ [.ref q']))) := by
        have g := R.grow hq hdq ⟨true, if mode = 1 then s.bound else 0, s.bound, s.owes - s.owes * p / (p + q), some i, none⟩
        rw [if_pos hm'] at g ⊢
        rw [List.map_append] at g
        exact g
      have hc : upd (upd H dq (.own q')) q' (.ins n.c_State dq (fl_State (.int s.bound) (.int s.bound) (.int ((s.owes - s.owes * p / (p + q) : Nat) : Int)) (.int i) .non)) c.1 = some (.lst (c.2.map V.ref)) := by
        rw [upd_ne (ne_of_none hl hq), upd_ne (ne_of_none hl hdq)]
        exact hl
      have ha' : (c.2 ++ [q'])[i]? = some a := by rw [List.getElem?_append_left (List.getElem?_eq_some_iff.mp ha).1]; exact ha
      obtain ⟨s', es', dx', hs'⟩ := R2.now.at_ i a ha'
      have es' : (b.states ++ [(⟨true, if mode = 1 then s.bound else 0, s.bound, s.owes - s.owes * p / (p + q), some i, none⟩ : State_)])[i]? = some s' := es'
      rw [List.getElem?_append_left il, es] at es'
      cases es'
      have R3 := R2.put ha' { s with owes := s.owes * p / (p + q) } dx'
      have f3 := f2.trans (Fr.upd (o := .ins n.c_State dx' (flS { s with owes := s.owes * p / (p + q) })) (R2.mem ha'))
      obtain ⟨dr3, hr3⟩ := R3.rec_
      have hl3 := R3.now.lst
      have hl3 : _ = some (HO.lst ((c.2 ++ [q']).map V.ref)) := hl3
      unfold flS at hs' hr3 hl3
      wide_line with T using (hc, hs', hr3, hl3, List.length_map)
      refine ⟨few_line (by omega), ?_⟩
      have e3 : b.parted i mode p q = Book.set ⟨b.t, b.states ++ [⟨true, if mode = 1 then s.bound else 0, s.bound, s.owes - s.owes * p / (p + q), some i, none⟩]⟩ i { s with owes := s.owes * p / (p + q) } := by
        unfold Book.parted Book.set
        rw [ea, List.set_append_left _ _ il]
      refine qi (k _ _ f3 (by rw [e3]; exact R3)) ?_
      rw [List.length_append]
      show ((b.states.length : Nat) : Int) = _
      simp
      omega
    · have hm' : ¬ mode = 1 := by omega
      wide_line with T using (hr_, hl, ha, hs, hm, hsub)
      intro q' dq hq hdq hne
      refine ⟨q', dq, _, _, _, _, rfl, upd_same, rfl, ?_⟩
      obtain ⟨R2, f2⟩ : RecAt n (upd (upd (upd H dq (.own q')) q' (.ins n.c_State dq (fl_State (.int 0) (.int s.bound) (.int ((s.owes - s.owes * p / (p + q) : Nat) : Int)) (.int i) .non))) c.1 (.lst (c.2.map V.ref ++ [.ref q']))) r le lu (c.1, c.2 ++ [q']) ⟨b.t, b.states ++ [⟨true, if mode = 1 then s.bound else 0, s.bound, s.owes - s.owes * p / (p + q), some i, none⟩]⟩ ∧ Fr (r :: foot c) H (r :: foot (c.1, c.2 ++ [q'])) (upd (upd (upd H dq (.own q')) q' (.ins n.c_State dq (fl_State (.int 0) (.int s.bound) (.int ((s.owes - s.owes * p / (p + q) : Nat) : Int)) (.int i) .non))) c.1 (.lst (c.2.map V.ref ++ [.ref q']))) := by
        have g := R.grow hq hdq ⟨true, if mode = 1 then s.bound else 0, s.bound, s.owes - s.owes * p / (p + q), some i, none⟩
        rw [if_neg hm'] at g ⊢
        rw [List.map_append] at g
        exact g
      have hc : upd (upd H dq (.own q')) q' (.ins n.c_State dq (fl_State (.int 0) (.int s.bound) (.int ((s.owes - s.owes * p / (p + q) : Nat) : Int)) (.int i) .non)) c.1 = some (.lst (c.2.map V.ref)) := by
        rw [upd_ne (ne_of_none hl hq), upd_ne (ne_of_none hl hdq)]
        exact hl
      have ha' : (c.2 ++ [q'])[i]? = some a := by rw [List.getElem?_append_left (List.getElem?_eq_some_iff.mp ha).1]; exact ha
      obtain ⟨s', es', dx', hs'⟩ := R2.now.at_ i a ha'
      have es' : (b.states ++ [(⟨true, if mode = 1 then s.bound else 0, s.bound, s.owes - s.owes * p / (p + q), some i, none⟩ : State_)])[i]? = some s' := es'
      rw [List.getElem?_append_left il, es] at es'
      cases es'
      have R3 := R2.put ha' { s with owes := s.owes * p / (p + q) } dx'
      have f3 := f2.trans (Fr.upd (o := .ins n.c_State dx' (flS { s with owes := s.owes * p / (p + q) })) (R2.mem ha'))
      obtain ⟨dr3, hr3⟩ := R3.rec_
      have hl3 := R3.now.lst
      have hl3 : _ = some (HO.lst ((c.2 ++ [q']).map V.ref)) := hl3
      unfold flS at hs' hr3 hl3
      wide_line with T using (hc, hs', hr3, hl3, List.length_map)
      refine ⟨few_line (by omega), ?_⟩
      have e3 : b.parted i mode p q = Book.set ⟨b.t, b.states ++ [⟨true, if mode = 1 then s.bound else 0, s.bound, s.owes - s.owes * p / (p + q), some i, none⟩]⟩ i { s with owes := s.owes * p / (p + q) } := by
        unfold Book.parted Book.set
        rw [ea, List.set_append_left _ _ il]
      refine qi (k _ _ f3 (by rw [e3]; exact R3)) ?_
      rw [List.length_append]
      show ((b.states.length : Nat) : Int) = _
      simp
      omega
def sp_Record_take_up (n : Nm) : Sp := fun vs H Q _ => ∃ (r le lu : Addr) (c : Cell) (b : Book) (i j mode : Nat), vs = [.ref r, .int i, .int j, .int mode] ∧ RecAt n H r le lu c b ∧ BookOk b ∧ b.there i = true ∧ b.there j = true ∧ i ≠ j ∧
  ∀ H', Fr (r :: foot c) H (r :: foot c) H' → RecAt n H' r le lu c (b.joined i j mode) → Q .non H'
theorem ok_Record_take_up (T : Txt n K mg) : FnOk P w K mg base CX0 2 n.f_Record_take_up n.d_Record_take_up ["self", "i", "j", "mode"] (sp_Record_take_up n) := by
  refine T.F_Record_take_up.ok sc_Record_take_up (fun vs H Q E h => ?_) (fun cdv A outer s H vs Q E hr h => ?_)
  · obtain ⟨r, le, lu, c, b, i, j, mode, rfl, _⟩ := h
    rfl
  · obtain ⟨r, le, lu, c, b, i, j, mode, rfl, R, ok, hi, hj, hij, k⟩ := h
    refine ⟨_, (pss_cons (ps_set (i := 4) sc_Record_take_up.nd rfl (by first | exact Or.inl rfl | exact Or.inr rfl) (pe_ix ix_lst (pe_fldK (K := K) (pv 0)) (pv 1) (by intro _ _; rfl))) (pss_cons (ps_set (i := 5) sc_Record_take_up.nd rfl (by first | exact Or.inl rfl | exact Or.inr rfl) (pe_ix ix_lst (pe_fldK (K := K) (pv 0)) (pv 2) (by intro _ _; rfl))) (pss_cons (ps_if (pt_cmpR op_eq (pv 3) pe_int (nomark _)) (pss_one (ps_fld (pv 4) (pe_op op_or (pe_fldK (K := K) (pv 4)) (pe_fldK (K := K) (pv 5))) rfl)) pss_nil) (pss_cons (ps_fld (pv 4) (pe_op op_or (pe_fldK (K := K) (pv 4)) (pe_fldK (K := K) (pv 5))) rfl) (pss_cons (ps_fld (pv 4) (pe_op op_add (pe_fldK (K := K) (pv 4)) (pe_fldK (K := K) (pv 5))) rfl) (pss_one (ps_expr (pe_meth (pv 5) T.cl_State T.M_State_vanish_into (ok_State_vanish_into T) (hr.mono (by decide)) T.b_State_vanish_into .nil pass0 (pa_cons (pv 1) pa_nil))))))))), ?_⟩
    obtain ⟨dr, hr_⟩ := R.rec_
    have hl := R.now.lst
    obtain ⟨s, es, _, ea⟩ := there_some hi
    obtain ⟨a, dx, ha, hs⟩ := R.now.get es
    obtain ⟨s', es', _, ea'⟩ := there_some hj
    obtain ⟨a', dx', ha', hs'⟩ := R.now.get es'
    have ne : a' ≠ a := fun z => by
      have nd := R.nd
      unfold foot at nd
      rw [List.nodup_cons, List.nodup_cons] at nd
      exact hij ((List.getElem?_inj (List.getElem?_eq_some_iff.mp ha).1 nd.2.2).mp (by rw [ha, ha', z]))
    have R2 := R.put ha { s with bound := if mode = 1 then s.bound ||| s'.bound else s.bound, free := s.free ||| s'.bound, owes := s.owes + s'.owes } dx
    have R3 := R2.put ha' { s' with there := false, bound := 0, free := 0, owes := 0, taken := some i } dx'
    have f3 := (Fr.upd (H := H) (o := .ins n.c_State dx (flS { s with bound := if mode = 1 then s.bound ||| s'.bound else s.bound, free := s.free ||| s'.bound, owes := s.owes + s'.owes })) (R.mem ha)).trans (Fr.upd (o := .ins n.c_State dx' (flS { s' with there := false, bound := 0, free := 0, owes := 0, taken := some i })) (R2.mem ha'))
    have e3 : b.joined i j mode = (b.set i { s with bound := if mode = 1 then s.bound ||| s'.bound else s.bound, free := s.free ||| s'.bound, owes := s.owes + s'.owes }).set j { s' with there := false, bound := 0, free := 0, owes := 0, taken := some i } := by
      unfold Book.joined
      rw [ea, ea']
    have k' := k _ f3 (by rw [e3]; exact R3)
    have hs2 : ∀ o, upd H a o a' = some (.ins n.c_State dx' (flS s')) := fun o => by rw [upd_ne ne]; exact hs'
    have hsum : ((s.owes : Nat) : Int) + ((s'.owes : Nat) : Int) = ((s.owes + s'.owes : Nat) : Int) := by omega
    unfold flS at hs hs' hs2
    by_cases hm : (mode : Int) = 1
    · have hm' : mode = 1 := by omega
      rw [if_pos hm'] at k'
      wide_line with T using (hr_, hl, ha, hs, ha', hs', hs2, hm, hsum)
      exact ⟨a', dx', s', i, rfl, hs2 _, k'⟩
    · have hm' : ¬ mode = 1 := by omega
      rw [if_neg hm'] at k'
      wide_line with T using (hr_, hl, ha, hs, ha', hs', hs2, hm, hsum)
      exact ⟨a', dx', s', i, rfl, hs2 _, k'⟩
def sp_Record_copied_states (n : Nm) : Sp := fun vs H Q _ => ∃ (r le lu : Addr) (c : Cell) (b : Book), vs = [.ref r] ∧ RecAt n H r le lu c b ∧ BookOk b ∧ ∀ H' cb, Ext H H' → Snap n H' cb b.states → (foot cb).Nodup → (∀ x ∈ foot cb, H x = none) → Q (.ref cb.1) H'
theorem ok_Record_copied_states (T : Txt n K mg) : FnOk P w K mg base CX0 4 n.f_Record_copied_states n.d_Record_copied_states ["self"] (sp_Record_copied_states n) := by
  refine T.F_Record_copied_states.ok sc_Record_copied_states (fun vs H Q E h => ?_) (fun cdv A outer s H vs Q E hr h => ?_)
  · obtain ⟨r, le, lu, c, b, rfl, _⟩ := h
    rfl
  · obtain ⟨r, le, lu, c, b, rfl, R, ok, k⟩ := h
    refine ⟨_, (pss_one (ps_ret (pe_lc rfl sc_Record_copied_states.nd (own := [("state", 1)]) (pi_lst (pe_fldK (K := K) (pv 0))) (show BlkOk ["self", "state"] (defScope s_Record_copied_states) _ [("state", 1)] from ⟨rfl, by decide +kernel, by decide +kernel, by decide +kernel, by decide +kernel⟩) (fun _ _ _ _ _ => (pg_name (i := 1) sc_Record_copied_states.nd rfl (by first | exact Or.inl rfl | exact Or.inr rfl))) (fun _ _ _ _ _ => pts_nil) (fun _ _ _ _ _ => (pe_meth0 (pv 1) T.cl_State T.M_State_copied (ok_State_copied T) (hr.mono (by decide)) T.b_State_copied .nil pass0))))), ?_⟩
    obtain ⟨dr, hr_⟩ := R.rec_
    have hl := R.now.lst
    have n12 := ok.n12
    wide_line with T
    refine tlc_at (J := Itl K c.1) (fun R' hR => ?_) (fun D hD => lc_list (K := K) (xs := c.2.map V.ref) (CpI n H D b.states) (CpI.zero hD) (fun i H' _ c' => ?_) (fun i x H' hx c' => ?_) (fun H' c' => ?_))
    · wide_line with T using (hr_, hl)
      exact hR
    · obtain ⟨as, C⟩ := c'
      exact SqL.of (C.ext _ _ hl)
    · obtain ⟨a, rfl, ha, s, es, _, hi, dx, hs⟩ := R.walk hx
      have hi : i < b.states.length := hi
      obtain ⟨as, C⟩ := id c'
      have hs2 := C.ext _ _ hs
      wide_line with T using (hs2, wipe)
      refine ⟨a, dx, s, rfl, hs2, fun q dq hq hdq => ?_⟩
      obtain ⟨as', hl', ha', c2⟩ := c'.step hD es hq hdq
      exact ⟨_, ha', by rw [List.length_map]; exact few_line (by omega), c2⟩
    · rw [List.length_map, R.now.len] at c'
      obtain ⟨as, S, nd, new, X⟩ := c'.snap hD
      exact k H' (D, as) X S nd new
theorem seq0 (k : Nat) : seqIndex? 0 (k + 1) = some 0 := by
  unfold seqIndex?
  simp
theorem DeskAt.ne3 {H : Hp} {A : Pl} {d : Desk} (D : DeskAt n H A d) : A.r ≠ A.le ∧ A.r ≠ A.lu ∧ A.le ≠ A.lu := by
  have nd := D.nd
  unfold Pl.foot at nd
  obtain ⟨_, h2, h3⟩ := List.nodup_append.mp nd
  exact ⟨h3 A.r List.mem_cons_self A.le List.mem_cons_self, h3 A.r List.mem_cons_self A.lu (List.mem_cons_of_mem _ List.mem_cons_self), fun z => (List.nodup_cons.mp h2).1 (z ▸ List.mem_cons_self)⟩
def sp_Record_keep_change (n : Nm) : Sp := fun vs H Q _ => ∃ (A : Pl) (d : Desk) (now : Book) (cb : Cell), vs = [.ref A.r, .ref cb.1] ∧ DeskAt n H A d ∧ d.past.length ≤ 20 ∧ Snap n H cb now.states ∧ (foot cb).Nodup ∧ (∀ x ∈ foot cb, x ∉ A.foot) ∧
  ∀ H' A', A'.r = A.r → DeskAt n H' A' ⟨d.now, (now :: d.past).take 20, []⟩ → Fr (A.foot ++ foot cb) H A'.foot H' → Q .non H'
theorem ok_Record_keep_change (T : Txt n K mg) : FnOk P w K mg base CX0 1 n.f_Record_keep_change n.d_Record_keep_change ["self", "before"] (sp_Record_keep_change n) := by
  refine T.F_Record_keep_change.ok sc_Record_keep_change (fun vs H Q E h => ?_) (fun cdv A outer s H vs Q E hr h => ?_)
  · obtain ⟨A, d, now, cb, rfl, _⟩ := h
    rfl
  · obtain ⟨A, d, now, cb, rfl, D, hpast, S, nd, hd, k⟩ := h
    refine ⟨_, (pss_cons (ps_expr (pe_lm PySem.F.slot_list_append PySem.F.type_list_append mt_append (pe_fldK (K := K) (pv 0)) (pa_cons (pv 1) pa_nil))) (pss_cons (ps_if (pt_cmpR op_gt (pe_callB len_lst (by rfl) T.no_len (by decide +kernel) (pa_cons (pe_fldK (K := K) (pv 0)) pa_nil)) (pe_gint rfl T.g_MOST_TAKEN_BACK) (nomark _)) (pss_one (ps_expr (pe_lm PySem.F.slot_list_pop PySem.F.type_list_pop mt_popAt (pe_fldK (K := K) (pv 0)) (pa_cons pe_int pa_nil)))) pss_nil) (pss_one (ps_fld (pv 0) (pe_lst pa_nil) rfl)))), ?_⟩
    obtain ⟨dr, hr_⟩ := D.rec_.rec_
    have hle := D.le_
    have hsn := D.past.len
    obtain ⟨rle, rlu, lelu⟩ := D.ne3
    have hr2 : ∀ o, upd H A.le o A.r = some (.ins n.c_Record dr (fl_Record (.int d.now.t) (.ref A.c.1) (.ref A.le) (.ref A.lu))) := fun o => by rw [upd_ne rle]; exact hr_
    have fin : ∀ L u, L = ((cb :: A.ps).take 20).reverse.map (fun q => V.ref q.1) → upd H A.le (.lst L) u = none → Q .non (upd (upd (upd H A.le (.lst L)) u (.lst [])) A.r (.ins n.c_Record dr (fl_Record (.int d.now.t) (.ref A.c.1) (.ref A.le) (.ref u)))) := fun L u eL hu => by
      have ule : u ≠ A.le := fun z => by rw [z, upd_same] at hu; cases hu
      rw [upd_ne ule] at hu
      have ur : u ≠ A.r := (ne_of_none hr_ hu).symm
      obtain ⟨D', f'⟩ := D.keep S nd hd hu (H' := upd (upd (upd H A.le (.lst L)) u (.lst [])) A.r (.ins n.c_Record dr (fl_Record (.int d.now.t) (.ref A.c.1) (.ref A.le) (.ref u)))) upd_same (by rw [upd_ne rle.symm, upd_ne ule.symm, upd_same, eL]) (by rw [upd_ne ur, upd_same]) (fun x x1 x2 x3 => by rw [upd_ne x1, upd_ne x3, upd_ne x2])
      exact k _ ⟨A.r, A.le, u, A.c, (cb :: A.ps).take 20, []⟩ rfl D' f'
    have hr3 : ∀ o u, upd H A.le o u = none → upd (upd H A.le o) u (.lst []) A.r = some (.ins n.c_Record dr (fl_Record (.int d.now.t) (.ref A.c.1) (.ref A.le) (.ref A.lu))) := fun o u hu => upd_of hu (hr2 o)
    wide_line with T using (hr_, hle)
    refine ⟨(by rw [List.length_map, List.length_reverse]; exact few_line (by omega)), ?_⟩
    rw [snoc_rev (fun q : Cell => V.ref q.1) cb A.ps]
    wide_line with T using (hr2, List.length_map, List.length_reverse)
    by_cases h20 : A.ps.length = 20
    · rw [if_pos (by omega)]
      refine ⟨by decide, by decide, 0, seq0 _, ?_, fun u hu => ?_⟩
      · cases ez : (cb :: A.ps).reverse[0]? with
        | none =>
          have q := List.getElem?_eq_none_iff.mp ez
          rw [List.length_reverse, List.length_cons] at q
          omega
        | some y => exact ⟨_, rfl⟩
      · rw [tail_rev (fun q : Cell => V.ref q.1) (l := cb :: A.ps) (m := 20) (by rw [List.length_cons, h20])] at hu ⊢
        have h3 := hr3 _ u hu
        wide_line with T using h3
        exact fin _ u rfl hu
    · rw [if_neg (by omega)]
      intro u hu
      have et : (cb :: A.ps).take 20 = cb :: A.ps := List.take_of_length_le (by rw [List.length_cons]; omega)
      have h3 := hr3 _ u hu
      wide_line with T using h3
      exact fin _ u (by rw [et]) hu
theorem perm_back {α : Type} (a b c d : List α) : (a ++ ((b ++ c) ++ d)).Perm (b ++ (c ++ (a ++ d))) := by
  have q := (List.perm_append_comm (l₁ := a) (l₂ := b ++ c)).append_right d
  simpa [List.append_assoc] using q
theorem perm_again {α : Type} (a b c d : List α) : (a ++ (c ++ (b ++ d))).Perm (b ++ ((a ++ c) ++ d)) := by
  have q := (List.perm_append_comm (l₁ := a ++ c) (l₂ := b)).append_right d
  simpa [List.append_assoc] using q
def sp_Record_take_back (n : Nm) : Sp := fun vs H Q _ => ∃ (A : Pl) (d : Desk) (kb : Book) (rest : List Book), vs = [.ref A.r] ∧ DeskAt n H A d ∧ d.past = kb :: rest ∧ kb.t = d.now.t ∧ d.future.length < 1000 ∧ ∀ H' A', A'.r = A.r → DeskAt n H' A' ⟨kb, rest, d.now :: d.future⟩ → Fr A.foot H A'.foot H' → Q .non H'
theorem ok_Record_take_back (T : Txt n K mg) : FnOk P w K mg base CX0 1 n.f_Record_take_back n.d_Record_take_back ["self"] (sp_Record_take_back n) := by
  refine T.F_Record_take_back.ok sc_Record_take_back (fun vs H Q E h => ?_) (fun cdv A outer s H vs Q E hr h => ?_)
  · obtain ⟨A, d, kb, rest, rfl, _⟩ := h
    rfl
  · obtain ⟨A, d, kb, rest, rfl, D, hp, ht, hf, k⟩ := h
    refine ⟨_, (pss_cons (ps_expr (pe_lm PySem.F.slot_list_append PySem.F.type_list_append mt_append (pe_fldK (K := K) (pv 0)) (pa_cons (pe_fldK (K := K) (pv 0)) pa_nil))) (pss_one (ps_fld (pv 0) (pe_lm0 PySem.F.slot_list_pop PySem.F.type_list_pop mt_pop (pe_fldK (K := K) (pv 0))) rfl))), ?_⟩
    obtain ⟨dr, hr_⟩ := D.rec_.rec_
    have hle := D.le_
    have hlu := D.lu_
    have hsn := D.fut.len
    obtain ⟨rle, rlu, lelu⟩ := D.ne3
    cases ep : A.ps with
    | nil =>
      have sn := D.past
      rw [ep, hp] at sn
      exact sn.elim
    | cons kc ps' =>
      have sn := D.past
      rw [ep, hp] at sn
      obtain ⟨sk, sr⟩ := sn
      obtain ⟨l1, l2⟩ := last_rev (fun q : Cell => V.ref q.1) kc ps'
      rw [ep] at hle
      have hr1 : ∀ o, upd H A.lu o A.r = some (.ins n.c_Record dr (fl_Record (.int d.now.t) (.ref A.c.1) (.ref A.le) (.ref A.lu))) := fun o => by rw [upd_ne rlu]; exact hr_
      have hle1 : ∀ o, upd H A.lu o A.le = some (.lst ((kc :: ps').reverse.map fun q => V.ref q.1)) := fun o => by rw [upd_ne lelu]; exact hle
      have hr2 : ∀ o o', upd (upd H A.lu o) A.le o' A.r = some (.ins n.c_Record dr (fl_Record (.int d.now.t) (.ref A.c.1) (.ref A.le) (.ref A.lu))) := fun o o' => by rw [upd_ne rle, upd_ne rlu]; exact hr_
      wide_line with T using (hr_, hlu, hr1, hle1, l1, l2, hr2)
      refine ⟨(by rw [List.length_map, List.length_reverse]; exact few_line (by omega)), ?_⟩
      obtain ⟨D', f'⟩ := D.turn (dr := dr) (c' := kc) (ps' := ps') (fs' := A.c :: A.fs) (d' := ⟨kb, rest, d.now :: d.future⟩) (H' := upd (upd (upd H A.lu (.lst ((A.fs.reverse.map fun q => V.ref q.1) ++ [.ref A.c.1]))) A.le (.lst (ps'.reverse.map fun q => V.ref q.1))) A.r (.ins n.c_Record dr (fl_Record (.int d.now.t) (.ref kc.1) (.ref A.le) (.ref A.lu))))
        (by rw [upd_same, ← ht]) (by rw [upd_ne rle.symm, upd_same]) (by rw [upd_ne rlu.symm, upd_ne lelu.symm, upd_same, snoc_rev (fun q : Cell => V.ref q.1) A.c A.fs]) (fun x x1 x2 x3 => by rw [upd_ne x1, upd_ne x2, upd_ne x3])
        (by rw [ep, List.flatMap_cons, List.flatMap_cons]; exact perm_back _ _ _ _) sk sr ⟨D.rec_.now, D.fut⟩
      exact k _ ⟨A.r, A.le, A.lu, kc, ps', A.c :: A.fs⟩ rfl D' f'
def sp_Record_do_again (n : Nm) : Sp := fun vs H Q _ => ∃ (A : Pl) (d : Desk) (kb : Book) (rest : List Book), vs = [.ref A.r] ∧ DeskAt n H A d ∧ d.future = kb :: rest ∧ kb.t = d.now.t ∧ d.past.length < 1000 ∧ ∀ H' A', A'.r = A.r → DeskAt n H' A' ⟨kb, d.now :: d.past, rest⟩ → Fr A.foot H A'.foot H' → Q .non H'
theorem ok_Record_do_again (T : Txt n K mg) : FnOk P w K mg base CX0 1 n.f_Record_do_again n.d_Record_do_again ["self"] (sp_Record_do_again n) := by
  refine T.F_Record_do_again.ok sc_Record_do_again (fun vs H Q E h => ?_) (fun cdv A outer s H vs Q E hr h => ?_)
  · obtain ⟨A, d, kb, rest, rfl, _⟩ := h
    rfl
  · obtain ⟨A, d, kb, rest, rfl, D, hp, ht, hf, k⟩ := h
    refine ⟨_, (pss_cons (ps_expr (pe_lm PySem.F.slot_list_append PySem.F.type_list_append mt_append (pe_fldK (K := K) (pv 0)) (pa_cons (pe_fldK (K := K) (pv 0)) pa_nil))) (pss_one (ps_fld (pv 0) (pe_lm0 PySem.F.slot_list_pop PySem.F.type_list_pop mt_pop (pe_fldK (K := K) (pv 0))) rfl))), ?_⟩
    obtain ⟨dr, hr_⟩ := D.rec_.rec_
    have hle := D.le_
    have hlu := D.lu_
    have hsn := D.past.len
    obtain ⟨rle, rlu, lelu⟩ := D.ne3
    cases ep : A.fs with
    | nil =>
      have sn := D.fut
      rw [ep, hp] at sn
      exact sn.elim
    | cons kc fs' =>
      have sn := D.fut
      rw [ep, hp] at sn
      obtain ⟨sk, sr⟩ := sn
      obtain ⟨l1, l2⟩ := last_rev (fun q : Cell => V.ref q.1) kc fs'
      rw [ep] at hlu
      have hr1 : ∀ o, upd H A.le o A.r = some (.ins n.c_Record dr (fl_Record (.int d.now.t) (.ref A.c.1) (.ref A.le) (.ref A.lu))) := fun o => by rw [upd_ne rle]; exact hr_
      have hlu1 : ∀ o, upd H A.le o A.lu = some (.lst ((kc :: fs').reverse.map fun q => V.ref q.1)) := fun o => by rw [upd_ne lelu.symm]; exact hlu
      have hr2 : ∀ o o', upd (upd H A.le o) A.lu o' A.r = some (.ins n.c_Record dr (fl_Record (.int d.now.t) (.ref A.c.1) (.ref A.le) (.ref A.lu))) := fun o o' => by rw [upd_ne rlu, upd_ne rle]; exact hr_
      wide_line with T using (hr_, hle, hr1, hlu1, l1, l2, hr2)
      refine ⟨(by rw [List.length_map, List.length_reverse]; exact few_line (by omega)), ?_⟩
      obtain ⟨D', f'⟩ := D.turn (dr := dr) (c' := kc) (ps' := A.c :: A.ps) (fs' := fs') (d' := ⟨kb, d.now :: d.past, rest⟩) (H' := upd (upd (upd H A.le (.lst ((A.ps.reverse.map fun q => V.ref q.1) ++ [.ref A.c.1]))) A.lu (.lst (fs'.reverse.map fun q => V.ref q.1))) A.r (.ins n.c_Record dr (fl_Record (.int d.now.t) (.ref kc.1) (.ref A.le) (.ref A.lu))))
        (by rw [upd_same, ← ht]) (by rw [upd_ne rle.symm, upd_ne lelu, upd_same, snoc_rev (fun q : Cell => V.ref q.1) A.c A.ps]) (by rw [upd_ne rlu.symm, upd_same]) (fun x x1 x2 x3 => by rw [upd_ne x1, upd_ne x3, upd_ne x2])
        (by rw [ep, List.flatMap_cons, List.flatMap_cons]; exact perm_again _ _ _ _) sk ⟨D.rec_.now, D.past⟩ sr
      exact k _ ⟨A.r, A.le, A.lu, kc, A.c :: A.ps, fs'⟩ rfl D' f'
def chQ (n : Nm) (H : Hp) (r le lu : Addr) (c : Cell) (b : Book) (x : Call) (Q : VK) : Prop :=
  ∀ H' c' p, Fr (r :: foot c) H (r :: foot c') H' → RecAt n H' r le lu c' (chg b x).1 → H p = none → p ∉ r :: foot c' → H' p = some (.lst [.int (chg b x).2]) → Q (.ref p) H'
section
variable {H H' : Hp} {r le lu : Addr} {c c' : Cell} {b b' : Book} {x : Call} {Q : VK} {v : Int} {p : Addr}
theorem chQ.yes (k : chQ n H r le lu c b x Q) (f : Fr (r :: foot c) H (r :: foot c') H') (R' : RecAt n H' r le lu c' b') (e : chg b x = (b', v)) (hp : H' p = none) : Q (.ref p) (upd H' p (.lst [.int v])) := by
  have e1 : (chg b x).1 = b' := by rw [e]
  have e2 : (chg b x).2 = v := by rw [e]
  have x1 : Ext H' (upd H' p (.lst [.int v])) := .new hp
  exact k _ c' p (f.ext x1) (by rw [e1]; exact R'.ext x1) (f.dom p hp) (R'.fresh hp) (by rw [e2]; exact upd_same)
theorem chQ.no (k : chQ n H r le lu c b x Q) (R : RecAt n H r le lu c b) (X : Ext H H') (e : chg b x = (b, v)) (hp : H' p = none) : Q (.ref p) (upd H' p (.lst [.int v])) := k.yes (.of_ext X) (R.ext X) e hp
end
def sp_su_sign (n : Nm) : Sp := fun vs H Q _ => ∃ (r le lu : Addr) (c : Cell) (b : Book) (i t : Nat), vs = [.ref r, .int i, .int t] ∧ RecAt n H r le lu c b ∧ BookOk b ∧ chQ n H r le lu c b (.sign i t) Q
theorem ok_su_sign (T : Txt n K mg) : FnOk P w K mg base CX0 3 n.f_su_sign n.d_su_sign ["record", "i", "t"] (sp_su_sign n) := by
  refine T.F_su_sign.ok sc_su_sign (fun vs H Q E h => ?_) (fun cdv A outer s H vs Q E hr h => ?_)
  · obtain ⟨r, le, lu, c, b, i, t, rfl, _⟩ := h
    rfl
  · obtain ⟨r, le, lu, c, b, i, t, rfl, R, ok, k⟩ := h
    refine ⟨_, (pss_cons (ps_if (PW.pt (pw_or (pt_not (pt_val (pe_meth (pv 0) T.cl_Record T.M_Record_has_state (ok_Record_has_state T) (hr.mono (by decide)) T.b_Record_has_state .nil pass0 (pa_cons (pv 1) pa_nil)))) (pw_or1 (pt_not (pt_val (pe_meth (pv 0) T.cl_Record T.M_Record_has_treaty (ok_Record_has_treaty T) (hr.mono (by decide)) T.b_Record_has_treaty .nil pass0 (pa_cons (pv 2) pa_nil))))))) (pss_one (ps_ret (pe_lst (pa_cons (pe_gint rfl T.g_THERE_IS_NONE) pa_nil)))) pss_nil) (pss_cons (ps_set (i := 3) sc_su_sign.nd rfl (by first | exact Or.inl rfl | exact Or.inr rfl) (pe_ix ix_lst (pe_fldK (K := K) (pv 0)) (pv 1) (by intro _ _; rfl))) (pss_cons (ps_if (pt_val (pe_call (ok_is_in T) (hr.mono (by decide)) rfl T.m_is_in T.F_is_in.kp T.b_is_in .nil pass0 (pa_cons (pv 2) (pa_cons (pe_fldK (K := K) (pv 3)) pa_nil)))) (pss_one (ps_ret (pe_lst (pa_cons (pe_gint rfl T.g_BOUND_ALREADY) pa_nil)))) pss_nil) (pss_cons (ps_fld (pv 3) (pe_call (ok_with_one T) (hr.mono (by decide)) rfl T.m_with_one T.F_with_one.kp T.b_with_one .nil pass0 (pa_cons (pv 2) (pa_cons (pe_fldK (K := K) (pv 3)) pa_nil))) rfl) (pss_one (ps_ret (pe_lst (pa_cons (pe_call (ok_how_many T) (hr.mono (by decide)) rfl T.m_how_many T.F_how_many.kp T.b_how_many .nil pass0 (pa_cons (pe_fldK (K := K) (pv 3)) pa_nil)) pa_nil)))))))), ?_⟩
    obtain ⟨dr, hr_⟩ := R.rec_
    have hl := R.now.lst
    wide_line with T using hr_
    refine ⟨r, le, lu, c, b, i, rfl, R, ok, ?_⟩
    wide_line with T using hr_
    cases hi : b.there i with
    | false =>
      wide_line with T
      exact fun p hp => k.no R (.refl H) (chg_sign_no (.inl hi)) hp
    | true =>
      wide_line with T
      refine ⟨r, le, lu, c, b, t, rfl, R, ?_⟩
      wide_line with T
      by_cases ht : t < b.t
      · obtain ⟨s, es, _, ea⟩ := there_some hi
        obtain ⟨a, dx, ha, hs⟩ := R.now.get es
        have so := ok.st i s es
        have ec := chg_sign hi ht ea
        unfold flS at hs
        wide_line with T using (ht, hr_, hl, ha, hs)
        refine ⟨t, s.bound, rfl, ?_⟩
        wide_line with T
        cases hb : s.bound.testBit t with
        | true =>
          wide_line with T
          exact fun p hp => k.no R (.refl H) (by rw [ec, if_pos hb]) hp
        | false =>
          have t8 := ok.t8
          wide_line with T using (ha, hs)
          refine ⟨t, s.bound, rfl, by omega, ?_⟩
          wide_line with T using hs
          refine ⟨_, rfl, ?_⟩
          rw [pop_sign so.bnd t8 ht hb, or_add hb]
          wide_line with T
          exact fun p hp => k.yes (.upd (R.mem ha)) (R.put ha { s with bound := s.bound + 2 ^ t } dx) (by rw [ec, if_neg (by simp [hb])]; rfl) hp
      · wide_line with T using ht
        exact fun p hp => k.no R (.refl H) (chg_sign_no (.inr (by omega))) hp
def sp_su_leave (n : Nm) : Sp := fun vs H Q _ => ∃ (r le lu : Addr) (c : Cell) (b : Book) (i t : Nat), vs = [.ref r, .int i, .int t] ∧ RecAt n H r le lu c b ∧ BookOk b ∧ chQ n H r le lu c b (.leave i t) Q
theorem ok_su_leave (T : Txt n K mg) : FnOk P w K mg base CX0 3 n.f_su_leave n.d_su_leave ["record", "i", "t"] (sp_su_leave n) := by
  refine T.F_su_leave.ok sc_su_leave (fun vs H Q E h => ?_) (fun cdv A outer s H vs Q E hr h => ?_)
  · obtain ⟨r, le, lu, c, b, i, t, rfl, _⟩ := h
    rfl
  · obtain ⟨r, le, lu, c, b, i, t, rfl, R, ok, k⟩ := h
    refine ⟨_, (pss_cons (ps_if (PW.pt (pw_or (pt_not (pt_val (pe_meth (pv 0) T.cl_Record T.M_Record_has_state (ok_Record_has_state T) (hr.mono (by decide)) T.b_Record_has_state .nil pass0 (pa_cons (pv 1) pa_nil)))) (pw_or1 (pt_not (pt_val (pe_meth (pv 0) T.cl_Record T.M_Record_has_treaty (ok_Record_has_treaty T) (hr.mono (by decide)) T.b_Record_has_treaty .nil pass0 (pa_cons (pv 2) pa_nil))))))) (pss_one (ps_ret (pe_lst (pa_cons (pe_gint rfl T.g_THERE_IS_NONE) pa_nil)))) pss_nil) (pss_cons (ps_set (i := 3) sc_su_leave.nd rfl (by first | exact Or.inl rfl | exact Or.inr rfl) (pe_ix ix_lst (pe_fldK (K := K) (pv 0)) (pv 1) (by intro _ _; rfl))) (pss_cons (ps_if (pt_not (pt_val (pe_call (ok_is_in T) (hr.mono (by decide)) rfl T.m_is_in T.F_is_in.kp T.b_is_in .nil pass0 (pa_cons (pv 2) (pa_cons (pe_fldK (K := K) (pv 3)) pa_nil))))) (pss_one (ps_ret (pe_lst (pa_cons (pe_gint rfl T.g_NOT_SO) pa_nil)))) pss_nil) (pss_cons (ps_fld (pv 3) (pe_call (ok_without_one T) (hr.mono (by decide)) rfl T.m_without_one T.F_without_one.kp T.b_without_one .nil pass0 (pa_cons (pv 2) (pa_cons (pe_fldK (K := K) (pv 3)) pa_nil))) rfl) (pss_one (ps_ret (pe_lst (pa_cons (pe_call (ok_how_many T) (hr.mono (by decide)) rfl T.m_how_many T.F_how_many.kp T.b_how_many .nil pass0 (pa_cons (pe_fldK (K := K) (pv 3)) pa_nil)) pa_nil)))))))), ?_⟩
    obtain ⟨dr, hr_⟩ := R.rec_
    have hl := R.now.lst
    wide_line with T using hr_
    refine ⟨r, le, lu, c, b, i, rfl, R, ok, ?_⟩
    cases hi : b.there i with
    | false =>
      wide_line with T
      exact fun p hp => k.no R (.refl H) (chg_leave_no (.inl hi)) hp
    | true =>
      wide_line with T using hr_
      refine ⟨r, le, lu, c, b, t, rfl, R, ?_⟩
      by_cases ht : t < b.t
      · obtain ⟨s, es, _, ea⟩ := there_some hi
        obtain ⟨a, dx, ha, hs⟩ := R.now.get es
        have so := ok.st i s es
        have ec := chg_leave hi ht ea
        unfold flS at hs
        wide_line with T using (ht, hr_, hl, ha, hs)
        refine ⟨t, s.bound, rfl, ?_⟩
        cases hb : s.bound.testBit t with
        | false =>
          wide_line with T
          exact fun p hp => k.no R (.refl H) (by rw [ec, if_pos hb]) hp
        | true =>
          have t8 := ok.t8
          wide_line with T using hs
          refine ⟨t, s.bound, rfl, by omega, ?_⟩
          wide_line with T using hs
          refine ⟨_, rfl, ?_⟩
          rw [andnot_sub hb, pop_leave so.bnd t8 ht hb]
          wide_line with T
          exact fun p hp => k.yes (.upd (R.mem ha)) (R.put ha { s with bound := s.bound - 2 ^ t } dx) (by rw [ec, if_neg (by simp [hb])]; rfl) hp
      · wide_line with T using ht
        exact fun p hp => k.no R (.refl H) (chg_leave_no (.inr (by omega))) hp
def sp_su_follow (n : Nm) : Sp := fun vs H Q _ => ∃ (r le lu : Addr) (c : Cell) (b : Book) (i t : Nat), vs = [.ref r, .int i, .int t] ∧ RecAt n H r le lu c b ∧ BookOk b ∧ chQ n H r le lu c b (.follow i t) Q
theorem ok_su_follow (T : Txt n K mg) : FnOk P w K mg base CX0 3 n.f_su_follow n.d_su_follow ["record", "i", "t"] (sp_su_follow n) := by
  refine T.F_su_follow.ok sc_su_follow (fun vs H Q E h => ?_) (fun cdv A outer s H vs Q E hr h => ?_)
  · obtain ⟨r, le, lu, c, b, i, t, rfl, _⟩ := h
    rfl
  · obtain ⟨r, le, lu, c, b, i, t, rfl, R, ok, k⟩ := h
    refine ⟨_, (pss_cons (ps_if (PW.pt (pw_or (pt_not (pt_val (pe_meth (pv 0) T.cl_Record T.M_Record_has_state (ok_Record_has_state T) (hr.mono (by decide)) T.b_Record_has_state .nil pass0 (pa_cons (pv 1) pa_nil)))) (pw_or1 (pt_not (pt_val (pe_meth (pv 0) T.cl_Record T.M_Record_has_treaty (ok_Record_has_treaty T) (hr.mono (by decide)) T.b_Record_has_treaty .nil pass0 (pa_cons (pv 2) pa_nil))))))) (pss_one (ps_ret (pe_lst (pa_cons (pe_gint rfl T.g_THERE_IS_NONE) pa_nil)))) pss_nil) (pss_cons (ps_set (i := 3) sc_su_follow.nd rfl (by first | exact Or.inl rfl | exact Or.inr rfl) (pe_ix ix_lst (pe_fldK (K := K) (pv 0)) (pv 1) (by intro _ _; rfl))) (pss_cons (ps_if (pt_not (pt_val (pe_call (ok_is_in T) (hr.mono (by decide)) rfl T.m_is_in T.F_is_in.kp T.b_is_in .nil pass0 (pa_cons (pv 2) (pa_cons (pe_fldK (K := K) (pv 3)) pa_nil))))) (pss_one (ps_ret (pe_lst (pa_cons (pe_gint rfl T.g_NOT_SO) pa_nil)))) pss_nil) (pss_cons (ps_if (pt_val (pe_call (ok_is_in T) (hr.mono (by decide)) rfl T.m_is_in T.F_is_in.kp T.b_is_in .nil pass0 (pa_cons (pv 2) (pa_cons (pe_fldK (K := K) (pv 3)) pa_nil)))) (pss_one (ps_ret (pe_lst (pa_cons (pe_gint rfl T.g_BOUND_ALREADY) pa_nil)))) pss_nil) (pss_cons (ps_fld (pv 3) (pe_call (ok_with_one T) (hr.mono (by decide)) rfl T.m_with_one T.F_with_one.kp T.b_with_one .nil pass0 (pa_cons (pv 2) (pa_cons (pe_fldK (K := K) (pv 3)) pa_nil))) rfl) (pss_one (ps_ret (pe_lst (pa_cons (pe_call (ok_how_many T) (hr.mono (by decide)) rfl T.m_how_many T.F_how_many.kp T.b_how_many .nil pass0 (pa_cons (pe_fldK (K := K) (pv 3)) pa_nil)) pa_nil))))))))), ?_⟩
    obtain ⟨dr, hr_⟩ := R.rec_
    have hl := R.now.lst
    wide_line with T using hr_
    refine ⟨r, le, lu, c, b, i, rfl, R, ok, ?_⟩
    cases hi : b.there i with
    | false =>
      wide_line with T
      exact fun p hp => k.no R (.refl H) (chg_follow_no (.inl hi)) hp
    | true =>
      wide_line with T using hr_
      refine ⟨r, le, lu, c, b, t, rfl, R, ?_⟩
      by_cases ht : t < b.t
      · obtain ⟨s, es, _, ea⟩ := there_some hi
        obtain ⟨a, dx, ha, hs⟩ := R.now.get es
        have so := ok.st i s es
        have ec := chg_follow hi ht ea
        unfold flS at hs
        wide_line with T using (ht, hr_, hl, ha, hs)
        refine ⟨t, s.free, rfl, ?_⟩
        cases hf : s.free.testBit t with
        | false =>
          wide_line with T
          exact fun p hp => k.no R (.refl H) (by rw [ec, if_pos hf]) hp
        | true =>
          wide_line with T using hs
          refine ⟨t, s.bound, rfl, ?_⟩
          cases hb : s.bound.testBit t with
          | true =>
            wide_line with T
            exact fun p hp => k.no R (.refl H) (by rw [ec, if_neg (by simp [hf]), if_pos hb]) hp
          | false =>
            have t8 := ok.t8
            wide_line with T using hs
            refine ⟨t, s.bound, rfl, by omega, ?_⟩
            wide_line with T using hs
            refine ⟨_, rfl, ?_⟩
            rw [pop_sign so.bnd t8 ht hb, or_add hb]
            wide_line with T
            exact fun p hp => k.yes (.upd (R.mem ha)) (R.put ha { s with bound := s.bound + 2 ^ t } dx) (by rw [ec, if_neg (by simp [hf]), if_neg (by simp [hb])]; rfl) hp
      · wide_line with T using ht
        exact fun p hp => k.no R (.refl H) (chg_follow_no (.inr (by omega))) hp
def sp_su_owe (n : Nm) : Sp := fun vs H Q _ => ∃ (r le lu : Addr) (c : Cell) (b : Book) (i x : Nat), vs = [.ref r, .int i, .int x] ∧ RecAt n H r le lu c b ∧ BookOk b ∧ chQ n H r le lu c b (.owe i x) Q
theorem ok_su_owe (T : Txt n K mg) : FnOk P w K mg base CX0 3 n.f_su_owe n.d_su_owe ["record", "i", "x"] (sp_su_owe n) := by
  refine T.F_su_owe.ok sc_su_owe (fun vs H Q E h => ?_) (fun cdv A outer s H vs Q E hr h => ?_)
  · obtain ⟨r, le, lu, c, b, i, x, rfl, _⟩ := h
    rfl
  · obtain ⟨r, le, lu, c, b, i, x, rfl, R, ok, k⟩ := h
    refine ⟨_, (pss_cons (ps_if (pt_not (pt_val (pe_meth (pv 0) T.cl_Record T.M_Record_has_state (ok_Record_has_state T) (hr.mono (by decide)) T.b_Record_has_state .nil pass0 (pa_cons (pv 1) pa_nil)))) (pss_one (ps_ret (pe_lst (pa_cons (pe_gint rfl T.g_THERE_IS_NONE) pa_nil)))) pss_nil) (pss_cons (ps_if (pt_val (pe_call (ok_wrong_units T) (hr.mono (by decide)) rfl T.m_wrong_units T.F_wrong_units.kp T.b_wrong_units .nil pass0 (pa_cons (pv 2) pa_nil))) (pss_one (ps_ret (pe_lst (pa_cons (pe_gint rfl T.g_WRONG_NUMBER) pa_nil)))) pss_nil) (pss_cons (ps_if (pt_cmpR op_gt (pe_op op_add (pe_meth0 (pv 0) T.cl_Record T.M_Record_total_debt (ok_Record_total_debt T) (hr.mono (by decide)) T.b_Record_total_debt .nil pass0) (pv 2)) (pe_gint rfl T.g_MOST_OWED) (nomark _)) (pss_one (ps_ret (pe_lst (pa_cons (pe_gint rfl T.g_TOO_MUCH_OWED) pa_nil)))) pss_nil) (pss_cons (ps_set (i := 3) sc_su_owe.nd rfl (by first | exact Or.inl rfl | exact Or.inr rfl) (pe_ix ix_lst (pe_fldK (K := K) (pv 0)) (pv 1) (by intro _ _; rfl))) (pss_cons (ps_fld (pv 3) (pe_op op_add (pe_fldK (K := K) (pv 3)) (pv 2)) rfl) (pss_one (ps_ret (pe_lst (pa_cons (pe_fldK (K := K) (pv 3)) pa_nil))))))))), ?_⟩
    obtain ⟨dr, hr_⟩ := R.rec_
    wide_line with T using hr_
    refine ⟨r, le, lu, c, b, i, rfl, R, ok, ?_⟩
    cases hi : b.there i with
    | false =>
      wide_line with T
      exact fun p hp => k.no R (.refl H) (chg_owe_no hi) hp
    | true =>
      obtain ⟨s, es, _, ea⟩ := there_some hi
      have ec := chg_owe (x := x) hi ea
      wide_line with T
      refine ⟨x, rfl, ?_⟩
      by_cases hx : x = 0 ∨ 1000000 < x
      · wide_line with T using hx
        exact fun p hp => k.no R (.refl H) (by rw [ec, if_pos hx]) hp
      · wide_line with T using (hx, hr_)
        refine ⟨r, le, lu, c, b, rfl, R, ok, fun H' X => ?_⟩
        have R' := R.ext X
        obtain ⟨dr', hr'⟩ := R'.rec_
        have hl' := R'.now.lst
        obtain ⟨a, dx, ha, hs⟩ := R'.now.get es
        unfold flS at hs
        by_cases ht : 10000000 < b.total + x
        · have ht' : (10000000 : Int) < (b.total : Int) + (x : Int) := by omega
          wide_line with T using ht'
          exact fun p hp => k.no R X (by rw [ec, if_neg hx, if_pos ht]) hp
        · have ht' : ¬ (10000000 : Int) < (b.total : Int) + (x : Int) := by omega
          have hsum : (s.owes : Int) + (x : Int) = ((s.owes + x : Nat) : Int) := by omega
          wide_line with T using (ht', hr', hl', ha, hs, hsum)
          exact fun p hp => k.yes (X.fr (.upd (R'.mem ha))) (R'.put ha { s with owes := s.owes + x } dx) (by rw [ec, if_neg hx, if_neg ht]; rfl) hp
def sp_su_pay (n : Nm) : Sp := fun vs H Q _ => ∃ (r le lu : Addr) (c : Cell) (b : Book) (i x : Nat), vs = [.ref r, .int i, .int x] ∧ RecAt n H r le lu c b ∧ BookOk b ∧ chQ n H r le lu c b (.pay i x) Q
theorem ok_su_pay (T : Txt n K mg) : FnOk P w K mg base CX0 3 n.f_su_pay n.d_su_pay ["record", "i", "x"] (sp_su_pay n) := by
  refine T.F_su_pay.ok sc_su_pay (fun vs H Q E h => ?_) (fun cdv A outer s H vs Q E hr h => ?_)
  · obtain ⟨r, le, lu, c, b, i, x, rfl, _⟩ := h
    rfl
  · obtain ⟨r, le, lu, c, b, i, x, rfl, R, ok, k⟩ := h
    refine ⟨_, (pss_cons (ps_if (pt_not (pt_val (pe_meth (pv 0) T.cl_Record T.M_Record_has_state (ok_Record_has_state T) (hr.mono (by decide)) T.b_Record_has_state .nil pass0 (pa_cons (pv 1) pa_nil)))) (pss_one (ps_ret (pe_lst (pa_cons (pe_gint rfl T.g_THERE_IS_NONE) pa_nil)))) pss_nil) (pss_cons (ps_if (pt_val (pe_call (ok_wrong_units T) (hr.mono (by decide)) rfl T.m_wrong_units T.F_wrong_units.kp T.b_wrong_units .nil pass0 (pa_cons (pv 2) pa_nil))) (pss_one (ps_ret (pe_lst (pa_cons (pe_gint rfl T.g_WRONG_NUMBER) pa_nil)))) pss_nil) (pss_cons (ps_set (i := 3) sc_su_pay.nd rfl (by first | exact Or.inl rfl | exact Or.inr rfl) (pe_ix ix_lst (pe_fldK (K := K) (pv 0)) (pv 1) (by intro _ _; rfl))) (pss_cons (ps_if (pt_cmpR op_lt (pe_fldK (K := K) (pv 3)) (pv 2) (nomark _)) (pss_one (ps_ret (pe_lst (pa_cons (pe_gint rfl T.g_OWES_LESS) pa_nil)))) pss_nil) (pss_cons (ps_fld (pv 3) (pe_op op_sub (pe_fldK (K := K) (pv 3)) (pv 2)) rfl) (pss_one (ps_ret (pe_lst (pa_cons (pe_fldK (K := K) (pv 3)) pa_nil))))))))), ?_⟩
    obtain ⟨dr, hr_⟩ := R.rec_
    have hl := R.now.lst
    wide_line with T using hr_
    refine ⟨r, le, lu, c, b, i, rfl, R, ok, ?_⟩
    cases hi : b.there i with
    | false =>
      wide_line with T
      exact fun p hp => k.no R (.refl H) (chg_pay_no hi) hp
    | true =>
      obtain ⟨s, es, _, ea⟩ := there_some hi
      obtain ⟨a, dx, ha, hs⟩ := R.now.get es
      unfold flS at hs
      have ec := chg_pay (x := x) hi ea
      wide_line with T
      refine ⟨x, rfl, ?_⟩
      by_cases hx : x = 0 ∨ 1000000 < x
      · wide_line with T using hx
        exact fun p hp => k.no R (.refl H) (by rw [ec, if_pos hx]) hp
      · by_cases ht : s.owes < x
        · have ht' : (s.owes : Int) < (x : Int) := by omega
          wide_line with T using (hx, hr_, hl, ha, hs, ht')
          exact fun p hp => k.no R (.refl H) (by rw [ec, if_neg hx, if_pos ht]) hp
        · have ht' : ¬ (s.owes : Int) < (x : Int) := by omega
          have hsub : (s.owes : Int) - (x : Int) = ((s.owes - x : Nat) : Int) := by omega
          wide_line with T using (hx, hr_, hl, ha, hs, ht', hsub)
          exact fun p hp => k.yes (.upd (R.mem ha)) (R.put ha { s with owes := s.owes - x } dx) (by rw [ec, if_neg hx, if_neg ht]; rfl) hp
def sp_su_part (n : Nm) : Sp := fun vs H Q _ => ∃ (r le lu : Addr) (c : Cell) (b : Book) (i mode p q : Nat), vs = [.ref r, .int i, .int mode, .int p, .int q] ∧ RecAt n H r le lu c b ∧ BookOk b ∧ chQ n H r le lu c b (.part i mode p q) Q
theorem ok_su_part (T : Txt n K mg) : FnOk P w K mg base CX0 4 n.f_su_part n.d_su_part ["record", "i", "mode", "p", "q"] (sp_su_part n) := by
  refine T.F_su_part.ok sc_su_part (fun vs H Q E h => ?_) (fun cdv A outer s H vs Q E hr h => ?_)
  · obtain ⟨r, le, lu, c, b, i, mode, p, q, rfl, _⟩ := h
    rfl
  · obtain ⟨r, le, lu, c, b, i, mode, p, q, rfl, R, ok, k⟩ := h
    refine ⟨_, (pss_cons (ps_if (pt_not (pt_val (pe_meth (pv 0) T.cl_Record T.M_Record_has_state (ok_Record_has_state T) (hr.mono (by decide)) T.b_Record_has_state .nil pass0 (pa_cons (pv 1) pa_nil)))) (pss_one (ps_ret (pe_lst (pa_cons (pe_gint rfl T.g_THERE_IS_NONE) pa_nil)))) pss_nil) (pss_cons (ps_if (PW.pt (pw_or (pt_val (pe_call (ok_wrong_mode T) (hr.mono (by decide)) rfl T.m_wrong_mode T.F_wrong_mode.kp T.b_wrong_mode .nil pass0 (pa_cons (pv 2) pa_nil))) (pw_or1 (pt_val (pe_call (ok_wrong_parts T) (hr.mono (by decide)) rfl T.m_wrong_parts T.F_wrong_parts.kp T.b_wrong_parts .nil pass0 (pa_cons (pv 3) (pa_cons (pv 4) pa_nil))))))) (pss_one (ps_ret (pe_lst (pa_cons (pe_gint rfl T.g_WRONG_NUMBER) pa_nil)))) pss_nil) (pss_cons (ps_if (pt_val (pe_meth0 (pv 0) T.cl_Record T.M_Record_is_full (ok_Record_is_full T) (hr.mono (by decide)) T.b_Record_is_full .nil pass0)) (pss_one (ps_ret (pe_lst (pa_cons (pe_gint rfl T.g_NO_MORE_STATES) pa_nil)))) pss_nil) (pss_one (ps_ret (pe_lst (pa_cons (pe_meth (pv 0) T.cl_Record T.M_Record_part (ok_Record_part T) (hr.mono (by decide)) T.b_Record_part .nil pass0 (pa_cons (pv 1) (pa_cons (pv 2) (pa_cons (pv 3) (pa_cons (pv 4) pa_nil))))) pa_nil))))))), ?_⟩
    obtain ⟨dr, hr_⟩ := R.rec_
    have hl := R.now.lst
    wide_line with T using hr_
    refine ⟨r, le, lu, c, b, i, rfl, R, ok, ?_⟩
    cases hi : b.there i with
    | false =>
      wide_line with T
      exact fun a hp => k.no R (.refl H) (chg_part_no hi) hp
    | true =>
      have ec := chg_part (mode := mode) (p := p) (q := q) hi
      wide_line with T
      refine ⟨mode, rfl, ?_⟩
      by_cases hm : 1 < mode
      · wide_line with T using hm
        exact fun a hp => k.no R (.refl H) (by rw [ec, if_pos (.inl hm)]) hp
      · wide_line with T using hm
        refine ⟨p, q, rfl, ?_⟩
        cases hpq : Km484.okParts p q with
        | false =>
          wide_line with T
          exact fun a hp => k.no R (.refl H) (by rw [ec, if_pos (.inr hpq)]) hp
        | true =>
          have hc : ¬ (1 < mode ∨ Km484.okParts p q = false) := by rw [hpq]; simp; omega
          wide_line with T using hr_
          refine ⟨r, le, lu, c, b, rfl, R, ?_⟩
          by_cases hn : 12 ≤ b.n
          · wide_line with T using hn
            exact fun a hp => k.no R (.refl H) (by rw [ec, if_neg hc, if_pos (show Km484.STATES ≤ b.n from hn)]) hp
          · wide_line with T using (hn, hr_)
            refine ⟨r, le, lu, c, b, i, mode, p, q, rfl, R, ok, hi, by omega, hpq, fun H' c' f R' => ?_⟩
            wide_line with T
            exact fun a hp => k.yes f R' (by rw [ec, if_neg hc, if_neg (show ¬ Km484.STATES ≤ b.n from hn)]; rfl) hp
def sp_su_join (n : Nm) : Sp := fun vs H Q _ => ∃ (r le lu : Addr) (c : Cell) (b : Book) (i j mode : Nat), vs = [.ref r, .int i, .int j, .int mode] ∧ RecAt n H r le lu c b ∧ BookOk b ∧ chQ n H r le lu c b (.join i j mode) Q
theorem ok_su_join (T : Txt n K mg) : FnOk P w K mg base CX0 3 n.f_su_join n.d_su_join ["record", "i", "j", "mode"] (sp_su_join n) := by
  refine T.F_su_join.ok sc_su_join (fun vs H Q E h => ?_) (fun cdv A outer s H vs Q E hr h => ?_)
  · obtain ⟨r, le, lu, c, b, i, j, mode, rfl, _⟩ := h
    rfl
  · obtain ⟨r, le, lu, c, b, i, j, mode, rfl, R, ok, k⟩ := h
    refine ⟨_, (pss_cons (ps_if (PW.pt (pw_or (pt_not (pt_val (pe_meth (pv 0) T.cl_Record T.M_Record_has_state (ok_Record_has_state T) (hr.mono (by decide)) T.b_Record_has_state .nil pass0 (pa_cons (pv 1) pa_nil)))) (pw_or1 (pt_not (pt_val (pe_meth (pv 0) T.cl_Record T.M_Record_has_state (ok_Record_has_state T) (hr.mono (by decide)) T.b_Record_has_state .nil pass0 (pa_cons (pv 2) pa_nil))))))) (pss_one (ps_ret (pe_lst (pa_cons (pe_gint rfl T.g_THERE_IS_NONE) pa_nil)))) pss_nil) (pss_cons (ps_if (PW.pt (pw_or (pt_cmpR op_eq (pv 1) (pv 2) (nomark _)) (pw_or1 (pt_val (pe_call (ok_wrong_mode T) (hr.mono (by decide)) rfl T.m_wrong_mode T.F_wrong_mode.kp T.b_wrong_mode .nil pass0 (pa_cons (pv 3) pa_nil)))))) (pss_one (ps_ret (pe_lst (pa_cons (pe_gint rfl T.g_WRONG_NUMBER) pa_nil)))) pss_nil) (pss_cons (ps_expr (pe_meth (pv 0) T.cl_Record T.M_Record_take_up (ok_Record_take_up T) (hr.mono (by decide)) T.b_Record_take_up .nil pass0 (pa_cons (pv 1) (pa_cons (pv 2) (pa_cons (pv 3) pa_nil))))) (pss_one (ps_ret (pe_lst (pa_cons (pe_call (ok_how_many T) (hr.mono (by decide)) rfl T.m_how_many T.F_how_many.kp T.b_how_many .nil pass0 (pa_cons (pe_meth0 (pv 0) T.cl_Record T.M_Record_who_is_there (ok_Record_who_is_there T) (hr.mono (by decide)) T.b_Record_who_is_there .nil pass0) pa_nil)) pa_nil))))))), ?_⟩
    obtain ⟨dr, hr_⟩ := R.rec_
    have hl := R.now.lst
    wide_line with T using hr_
    refine ⟨r, le, lu, c, b, i, rfl, R, ok, ?_⟩
    cases hi : b.there i with
    | false =>
      wide_line with T
      exact fun a hp => k.no R (.refl H) (chg_join_no (.inl hi)) hp
    | true =>
      wide_line with T using hr_
      refine ⟨r, le, lu, c, b, j, rfl, R, ok, ?_⟩
      cases hj : b.there j with
      | false =>
        wide_line with T
        exact fun a hp => k.no R (.refl H) (chg_join_no (.inr hj)) hp
      | true =>
        have ec := chg_join (mode := mode) hi hj
        obtain ⟨s, es, ht, ea⟩ := there_some hi
        obtain ⟨s', es', ht', ea'⟩ := there_some hj
        by_cases hij : i = j
        · wide_line with T using hij
          exact fun a hp => k.no R (.refl H) (by rw [ec, if_pos (.inl hij)]) hp
        · wide_line with T using hij
          refine ⟨mode, rfl, ?_⟩
          by_cases hm : 1 < mode
          · wide_line with T using hm
            exact fun a hp => k.no R (.refl H) (by rw [ec, if_pos (.inr hm)]) hp
          · have hc : ¬ (i = j ∨ 1 < mode) := by omega
            wide_line with T using (hm, hr_)
            refine ⟨r, le, lu, c, b, i, j, mode, rfl, R, ok, hi, hj, hij, fun H' f R' => ?_⟩
            obtain ⟨dr', hr'⟩ := R'.rec_
            wide_line with T using hr'
            refine ⟨r, le, lu, c, _, rfl, R', joined_ok ok es ht es' ht' hij, fun H2 X => ?_⟩
            wide_line with T
            refine ⟨_, rfl, ?_⟩
            rw [alive_pop, alive_joined es es' ht' hij]
            wide_line with T
            exact fun a hp => k.yes (f.ext X) (R'.ext X) (by rw [ec, if_neg hc]; rfl) hp
def asQ (n : Nm) (H : Hp) (b : Book) (x : Call) (Q : VK) : Prop := ∀ H' p, Ext H H' → H p = none → H' p = some (.lst ((ask b x).map V.int)) → Q (.ref p) H'
theorem asQ.yes {H H' : Hp} {b : Book} {x : Call} {Q : VK} {p : Addr} {l : List V} (k : asQ n H b x Q) (X : Ext H H') (hp : H' p = none) (e : (ask b x).map V.int = l) : Q (.ref p) (upd H' p (.lst l)) :=
  k _ p (X.trans (.new hp)) (X.none hp) (by rw [e]; exact upd_same)
def sp_su_treaties (n : Nm) : Sp := fun vs H Q _ => ∃ (r le lu : Addr) (c : Cell) (b : Book) (i : Nat), vs = [.ref r, .int i] ∧ RecAt n H r le lu c b ∧ BookOk b ∧ asQ n H b (.treaties i) Q
theorem ok_su_treaties (T : Txt n K mg) : FnOk P w K mg base CX0 3 n.f_su_treaties n.d_su_treaties ["record", "i"] (sp_su_treaties n) := by
  refine T.F_su_treaties.ok sc_su_treaties (fun vs H Q E h => ?_) (fun cdv A outer s H vs Q E hr h => ?_)
  · obtain ⟨r, le, lu, c, b, i, rfl, _⟩ := h
    rfl
  · obtain ⟨r, le, lu, c, b, i, rfl, R, ok, k⟩ := h
    refine ⟨_, (pss_cons (ps_if (pt_not (pt_val (pe_meth (pv 0) T.cl_Record T.M_Record_has_state (ok_Record_has_state T) (hr.mono (by decide)) T.b_Record_has_state .nil pass0 (pa_cons (pv 1) pa_nil)))) (pss_one (ps_ret (pe_lst (pa_cons (pe_gint rfl T.g_THERE_IS_NONE) pa_nil)))) pss_nil) (pss_cons (ps_set (i := 2) sc_su_treaties.nd rfl (by first | exact Or.inl rfl | exact Or.inr rfl) (pe_ix ix_lst (pe_fldK (K := K) (pv 0)) (pv 1) (by intro _ _; rfl))) (pss_one (ps_ret (pe_lst (pa_cons (pe_call (ok_how_many T) (hr.mono (by decide)) rfl T.m_how_many T.F_how_many.kp T.b_how_many .nil pass0 (pa_cons (pe_fldK (K := K) (pv 2)) pa_nil)) (pa_cons (pe_fldK (K := K) (pv 2)) (pa_cons (pe_fldK (K := K) (pv 2)) pa_nil)))))))), ?_⟩
    obtain ⟨dr, hr_⟩ := R.rec_
    have hl := R.now.lst
    have ek := ask_treaties b i
    wide_line with T using hr_
    refine ⟨r, le, lu, c, b, i, rfl, R, ok, ?_⟩
    wide_line with T using (hr_, hl)
    cases hi : b.there i with
    | false =>
      wide_line with T
      exact fun p hp => k.yes (.refl H) hp (by rw [ek, if_neg (by simp [hi])]; rfl)
    | true =>
      obtain ⟨s, es, _, ea⟩ := there_some hi
      obtain ⟨a, dx, ha, hs⟩ := R.now.get es
      have so := ok.st i s es
      unfold flS at hs
      wide_line with T using (ha, hs)
      refine ⟨s.bound, rfl, ?_⟩
      wide_line with T using hs
      exact fun p hp => k.yes (.refl H) hp (by rw [ek, if_pos hi, ea, pop_count so.bnd ok.t8]; rfl)
def sp_su_bound (n : Nm) : Sp := fun vs H Q _ => ∃ (r le lu : Addr) (c : Cell) (b : Book) (t : Nat), vs = [.ref r, .int t] ∧ RecAt n H r le lu c b ∧ BookOk b ∧ asQ n H b (.bound t) Q
theorem ok_su_bound (T : Txt n K mg) : FnOk P w K mg base CX0 3 n.f_su_bound n.d_su_bound ["record", "t"] (sp_su_bound n) := by
  refine T.F_su_bound.ok sc_su_bound (fun vs H Q E h => ?_) (fun cdv A outer s H vs Q E hr h => ?_)
  · obtain ⟨r, le, lu, c, b, t, rfl, _⟩ := h
    rfl
  · obtain ⟨r, le, lu, c, b, t, rfl, R, ok, k⟩ := h
    refine ⟨_, (pss_cons (ps_if (pt_not (pt_val (pe_meth (pv 0) T.cl_Record T.M_Record_has_treaty (ok_Record_has_treaty T) (hr.mono (by decide)) T.b_Record_has_treaty .nil pass0 (pa_cons (pv 1) pa_nil)))) (pss_one (ps_ret (pe_lst (pa_cons (pe_gint rfl T.g_THERE_IS_NONE) pa_nil)))) pss_nil) (pss_cons (ps_set (i := 2) sc_su_bound.nd rfl (by first | exact Or.inl rfl | exact Or.inr rfl) (pe_meth (pv 0) T.cl_Record T.M_Record_who_is_bound (ok_Record_who_is_bound T) (hr.mono (by decide)) T.b_Record_who_is_bound .nil pass0 (pa_cons (pv 1) pa_nil))) (pss_one (ps_ret (pe_lst (pa_cons (pe_call (ok_how_many T) (hr.mono (by decide)) rfl T.m_how_many T.F_how_many.kp T.b_how_many .nil pass0 (pa_cons (pv 2) pa_nil)) (pa_cons (pv 2) pa_nil))))))), ?_⟩
    obtain ⟨dr, hr_⟩ := R.rec_
    have ek := ask_bound b t
    wide_line with T using hr_
    refine ⟨r, le, lu, c, b, t, rfl, R, ?_⟩
    wide_line with T using hr_
    by_cases ht : t < b.t
    · wide_line with T using ht
      refine ⟨r, le, lu, c, b, t, rfl, R, ok, fun H' X => ?_⟩
      wide_line with T
      refine ⟨_, rfl, ?_⟩
      rw [alive_filter_pop]
      wide_line with T
      exact fun p hp => k.yes X hp (by rw [ek, if_pos ht]; rfl)
    · wide_line with T using ht
      exact fun p hp => k.yes (.refl H) hp (by rw [ek, if_neg ht]; rfl)
def sp_su_common (n : Nm) : Sp := fun vs H Q _ => ∃ (r le lu : Addr) (c : Cell) (b : Book) (i j : Nat), vs = [.ref r, .int i, .int j] ∧ RecAt n H r le lu c b ∧ BookOk b ∧ asQ n H b (.common i j) Q
theorem ok_su_common (T : Txt n K mg) : FnOk P w K mg base CX0 3 n.f_su_common n.d_su_common ["record", "i", "j"] (sp_su_common n) := by
  refine T.F_su_common.ok sc_su_common (fun vs H Q E h => ?_) (fun cdv A outer s H vs Q E hr h => ?_)
  · obtain ⟨r, le, lu, c, b, i, j, rfl, _⟩ := h
    rfl
  · obtain ⟨r, le, lu, c, b, i, j, rfl, R, ok, k⟩ := h
    refine ⟨_, (pss_cons (ps_if (PW.pt (pw_or (pt_not (pt_val (pe_meth (pv 0) T.cl_Record T.M_Record_has_state (ok_Record_has_state T) (hr.mono (by decide)) T.b_Record_has_state .nil pass0 (pa_cons (pv 1) pa_nil)))) (pw_or1 (pt_not (pt_val (pe_meth (pv 0) T.cl_Record T.M_Record_has_state (ok_Record_has_state T) (hr.mono (by decide)) T.b_Record_has_state .nil pass0 (pa_cons (pv 2) pa_nil))))))) (pss_one (ps_ret (pe_lst (pa_cons (pe_gint rfl T.g_THERE_IS_NONE) pa_nil)))) pss_nil) (pss_cons (ps_if (pt_cmpR op_eq (pv 1) (pv 2) (nomark _)) (pss_one (ps_ret (pe_lst (pa_cons (pe_gint rfl T.g_WRONG_NUMBER) pa_nil)))) pss_nil) (pss_cons (ps_set (i := 3) sc_su_common.nd rfl (by first | exact Or.inl rfl | exact Or.inr rfl) (pe_op op_and (pe_fldK (K := K) (pe_ix ix_lst (pe_fldK (K := K) (pv 0)) (pv 1) (by intro _ _; rfl))) (pe_fldK (K := K) (pe_ix ix_lst (pe_fldK (K := K) (pv 0)) (pv 2) (by intro _ _; rfl))))) (pss_one (ps_ret (pe_lst (pa_cons (pe_call (ok_how_many T) (hr.mono (by decide)) rfl T.m_how_many T.F_how_many.kp T.b_how_many .nil pass0 (pa_cons (pv 3) pa_nil)) (pa_cons (pv 3) pa_nil)))))))), ?_⟩
    obtain ⟨dr, hr_⟩ := R.rec_
    have hl := R.now.lst
    have ek := ask_common b i j
    wide_line with T using hr_
    refine ⟨r, le, lu, c, b, i, rfl, R, ok, ?_⟩
    wide_line with T using hr_
    cases hi : b.there i with
    | false =>
      wide_line with T
      exact fun p hp => k.yes (.refl H) hp (by rw [ek, if_neg (by simp [hi])]; rfl)
    | true =>
      wide_line with T
      refine ⟨r, le, lu, c, b, j, rfl, R, ok, ?_⟩
      wide_line with T using (hr_, hl)
      cases hj : b.there j with
      | false =>
        wide_line with T
        exact fun p hp => k.yes (.refl H) hp (by rw [ek, if_neg (by simp [hj])]; rfl)
      | true =>
        obtain ⟨s, es, _, ea⟩ := there_some hi
        obtain ⟨a, dx, ha, hs⟩ := R.now.get es
        obtain ⟨s', es', _, ea'⟩ := there_some hj
        obtain ⟨a', dx', ha', hs'⟩ := R.now.get es'
        have so := ok.st i s es
        unfold flS at hs hs'
        by_cases hij : i = j
        · wide_line with T using hij
          exact fun p hp => k.yes (.refl H) hp (by rw [ek, if_pos ⟨hi, hj⟩, if_pos hij]; rfl)
        · wide_line with T using (hij, ha, hs, ha', hs')
          refine ⟨s.bound &&& s'.bound, rfl, ?_⟩
          wide_line with T
          exact fun p hp => k.yes (.refl H) hp (by rw [ek, if_pos ⟨hi, hj⟩, if_neg hij, ea, ea', pop_count (Nat.lt_of_le_of_lt Nat.and_le_left so.bnd) ok.t8]; rfl)
def sp_su_debt (n : Nm) : Sp := fun vs H Q _ => ∃ (r le lu : Addr) (c : Cell) (b : Book) (i : Nat), vs = [.ref r, .int i] ∧ RecAt n H r le lu c b ∧ BookOk b ∧ asQ n H b (.debt i) Q
theorem ok_su_debt (T : Txt n K mg) : FnOk P w K mg base CX0 3 n.f_su_debt n.d_su_debt ["record", "i"] (sp_su_debt n) := by
  refine T.F_su_debt.ok sc_su_debt (fun vs H Q E h => ?_) (fun cdv A outer s H vs Q E hr h => ?_)
  · obtain ⟨r, le, lu, c, b, i, rfl, _⟩ := h
    rfl
  · obtain ⟨r, le, lu, c, b, i, rfl, R, ok, k⟩ := h
    refine ⟨_, (pss_cons (ps_if (pt_not (pt_val (pe_meth (pv 0) T.cl_Record T.M_Record_has_state (ok_Record_has_state T) (hr.mono (by decide)) T.b_Record_has_state .nil pass0 (pa_cons (pv 1) pa_nil)))) (pss_one (ps_ret (pe_lst (pa_cons (pe_gint rfl T.g_THERE_IS_NONE) pa_nil)))) pss_nil) (pss_one (ps_ret (pe_lst (pa_cons (pe_fldK (K := K) (pe_ix ix_lst (pe_fldK (K := K) (pv 0)) (pv 1) (by intro _ _; rfl))) pa_nil))))), ?_⟩
    obtain ⟨dr, hr_⟩ := R.rec_
    have hl := R.now.lst
    have ek := ask_debt b i
    wide_line with T using hr_
    refine ⟨r, le, lu, c, b, i, rfl, R, ok, ?_⟩
    wide_line with T using (hr_, hl)
    cases hi : b.there i with
    | false =>
      wide_line with T
      exact fun p hp => k.yes (.refl H) hp (by rw [ek, if_neg (by simp [hi])]; rfl)
    | true =>
      obtain ⟨s, es, _, ea⟩ := there_some hi
      obtain ⟨a, dx, ha, hs⟩ := R.now.get es
      unfold flS at hs
      wide_line with T using (ha, hs)
      exact fun p hp => k.yes (.refl H) hp (by rw [ek, if_pos hi, ea]; rfl)
def sp_su_total (n : Nm) : Sp := fun vs H Q _ => ∃ (r le lu : Addr) (c : Cell) (b : Book), vs = [.ref r] ∧ RecAt n H r le lu c b ∧ BookOk b ∧ asQ n H b .total Q
theorem ok_su_total (T : Txt n K mg) : FnOk P w K mg base CX0 3 n.f_su_total n.d_su_total ["record"] (sp_su_total n) := by
  refine T.F_su_total.ok sc_su_total (fun vs H Q E h => ?_) (fun cdv A outer s H vs Q E hr h => ?_)
  · obtain ⟨r, le, lu, c, b, rfl, _⟩ := h
    rfl
  · obtain ⟨r, le, lu, c, b, rfl, R, ok, k⟩ := h
    refine ⟨_, (pss_one (ps_ret (pe_lst (pa_cons (pe_meth0 (pv 0) T.cl_Record T.M_Record_total_debt (ok_Record_total_debt T) (hr.mono (by decide)) T.b_Record_total_debt .nil pass0) (pa_cons (pe_call (ok_how_many T) (hr.mono (by decide)) rfl T.m_how_many T.F_how_many.kp T.b_how_many .nil pass0 (pa_cons (pe_meth0 (pv 0) T.cl_Record T.M_Record_who_is_there (ok_Record_who_is_there T) (hr.mono (by decide)) T.b_Record_who_is_there .nil pass0) pa_nil)) pa_nil))))), ?_⟩
    obtain ⟨dr, hr_⟩ := R.rec_
    wide_line with T using hr_
    refine ⟨r, le, lu, c, b, rfl, R, ok, fun H' X => ?_⟩
    obtain ⟨dr', hr2⟩ := (R.ext X).rec_
    wide_line with T using hr2
    refine ⟨r, le, lu, c, b, rfl, R.ext X, ok, fun H2 X2 => ?_⟩
    wide_line with T
    refine ⟨_, rfl, ?_⟩
    rw [alive_pop]
    wide_line with T
    exact fun p hp => k.yes (X.trans X2) hp (by rw [ask_total]; rfl)
def sp_su_from (n : Nm) : Sp := fun vs H Q _ => ∃ (r le lu : Addr) (c : Cell) (b : Book) (i : Nat), vs = [.ref r, .int i] ∧ RecAt n H r le lu c b ∧ BookOk b ∧ asQ n H b (.from_ i) Q
theorem ok_su_from (T : Txt n K mg) : FnOk P w K mg base CX0 2 n.f_su_from n.d_su_from ["record", "i"] (sp_su_from n) := by
  refine T.F_su_from.ok sc_su_from (fun vs H Q E h => ?_) (fun cdv A outer s H vs Q E hr h => ?_)
  · obtain ⟨r, le, lu, c, b, i, rfl, _⟩ := h
    rfl
  · obtain ⟨r, le, lu, c, b, i, rfl, R, ok, k⟩ := h
    refine ⟨_, (pss_cons (ps_if (pt_not (pt_val (pe_meth (pv 0) T.cl_Record T.M_Record_had_state (ok_Record_had_state T) (hr.mono (by decide)) T.b_Record_had_state .nil pass0 (pa_cons (pv 1) pa_nil)))) (pss_one (ps_ret (pe_lst (pa_cons (pe_gint rfl T.g_THERE_IS_NONE) pa_nil)))) pss_nil) (pss_cons (ps_set (i := 2) sc_su_from.nd rfl (by first | exact Or.inl rfl | exact Or.inr rfl) (pe_ix ix_lst (pe_fldK (K := K) (pv 0)) (pv 1) (by intro _ _; rfl))) (pss_one (ps_ret (pe_lst (pa_cons (pe_call (ok_one_more T) (hr.mono (by decide)) rfl T.m_one_more T.F_one_more.kp T.b_one_more .nil pass0 (pa_cons (pe_fldK (K := K) (pv 2)) pa_nil)) (pa_cons (pe_call (ok_one_more T) (hr.mono (by decide)) rfl T.m_one_more T.F_one_more.kp T.b_one_more .nil pass0 (pa_cons (pe_fldK (K := K) (pv 2)) pa_nil)) pa_nil))))))), ?_⟩
    obtain ⟨dr, hr_⟩ := R.rec_
    have hl := R.now.lst
    have ek := ask_from b i
    wide_line with T using hr_
    refine ⟨r, le, lu, c, b, i, rfl, R, ?_⟩
    wide_line with T using (hr_, hl)
    by_cases hi : i < b.n
    · obtain ⟨a, dx, ha, hs⟩ := R.now.get (get_at hi)
      unfold flS at hs
      wide_line with T using (hi, ha, hs)
      refine ⟨_, rfl, ?_⟩
      wide_line with T using hs
      refine ⟨_, rfl, ?_⟩
      wide_line with T
      exact fun p hp => k.yes (.refl H) hp (by rw [ek, if_pos hi]; rfl)
    · wide_line with T using hi
      exact fun p hp => k.yes (.refl H) hp (by rw [ek, if_neg hi]; rfl)
def sp_su_line (n : Nm) : Sp := fun vs H Q _ => ∃ (r le lu : Addr) (c : Cell) (b : Book) (i : Nat), vs = [.ref r, .int i] ∧ RecAt n H r le lu c b ∧ BookOk b ∧ asQ n H b (.line i) Q
theorem ok_su_line (T : Txt n K mg) : FnOk P w K mg base CX0 3 n.f_su_line n.d_su_line ["record", "i"] (sp_su_line n) := by
  refine T.F_su_line.ok sc_su_line (fun vs H Q E h => ?_) (fun cdv A outer s H vs Q E hr h => ?_)
  · obtain ⟨r, le, lu, c, b, i, rfl, _⟩ := h
    rfl
  · obtain ⟨r, le, lu, c, b, i, rfl, R, ok, k⟩ := h
    refine ⟨_, (pss_cons (ps_if (pt_not (pt_val (pe_meth (pv 0) T.cl_Record T.M_Record_had_state (ok_Record_had_state T) (hr.mono (by decide)) T.b_Record_had_state .nil pass0 (pa_cons (pv 1) pa_nil)))) (pss_one (ps_ret (pe_lst (pa_cons (pe_gint rfl T.g_THERE_IS_NONE) pa_nil)))) pss_nil) (pss_cons (ps_set (i := 2) sc_su_line.nd rfl (by first | exact Or.inl rfl | exact Or.inr rfl) (pe_meth (pv 0) T.cl_Record T.M_Record_line (ok_Record_line T) (hr.mono (by decide)) T.b_Record_line .nil pass0 (pa_cons (pv 1) pa_nil))) (pss_one (ps_ret (pe_lst (pa_cons (pe_call (ok_how_many T) (hr.mono (by decide)) rfl T.m_how_many T.F_how_many.kp T.b_how_many .nil pass0 (pa_cons (pv 2) pa_nil)) (pa_cons (pv 2) pa_nil))))))), ?_⟩
    obtain ⟨dr, hr_⟩ := R.rec_
    have ek := ask_line b i
    wide_line with T using hr_
    refine ⟨r, le, lu, c, b, i, rfl, R, ?_⟩
    wide_line with T using hr_
    by_cases hi : i < b.n
    · wide_line with T using hi
      refine ⟨r, le, lu, c, b, i, rfl, R, ok, hi, ?_⟩
      wide_line with T
      refine ⟨_, rfl, ?_⟩
      rw [line_pop ok hi]
      wide_line with T
      exact fun p hp => k.yes (.refl H) hp (by rw [ek, if_pos hi]; rfl)
    · wide_line with T using hi
      exact fun p hp => k.yes (.refl H) hp (by rw [ek, if_neg hi]; rfl)
def sp_su_heirs (n : Nm) : Sp := fun vs H Q _ => ∃ (r le lu : Addr) (c : Cell) (b : Book) (i : Nat), vs = [.ref r, .int i] ∧ RecAt n H r le lu c b ∧ BookOk b ∧ asQ n H b (.heirs i) Q
theorem ok_su_heirs (T : Txt n K mg) : FnOk P w K mg base CX0 4 n.f_su_heirs n.d_su_heirs ["record", "i"] (sp_su_heirs n) := by
  refine T.F_su_heirs.ok sc_su_heirs (fun vs H Q E h => ?_) (fun cdv A outer s H vs Q E hr h => ?_)
  · obtain ⟨r, le, lu, c, b, i, rfl, _⟩ := h
    rfl
  · obtain ⟨r, le, lu, c, b, i, rfl, R, ok, k⟩ := h
    refine ⟨_, (pss_cons (ps_if (pt_not (pt_val (pe_meth (pv 0) T.cl_Record T.M_Record_had_state (ok_Record_had_state T) (hr.mono (by decide)) T.b_Record_had_state .nil pass0 (pa_cons (pv 1) pa_nil)))) (pss_one (ps_ret (pe_lst (pa_cons (pe_gint rfl T.g_THERE_IS_NONE) pa_nil)))) pss_nil) (pss_cons (ps_set (i := 2) sc_su_heirs.nd rfl (by first | exact Or.inl rfl | exact Or.inr rfl) (pe_meth (pv 0) T.cl_Record T.M_Record_heirs (ok_Record_heirs T) (hr.mono (by decide)) T.b_Record_heirs .nil pass0 (pa_cons (pv 1) pa_nil))) (pss_one (ps_ret (pe_lst (pa_cons (pe_call (ok_how_many T) (hr.mono (by decide)) rfl T.m_how_many T.F_how_many.kp T.b_how_many .nil pass0 (pa_cons (pv 2) pa_nil)) (pa_cons (pv 2) pa_nil))))))), ?_⟩
    obtain ⟨dr, hr_⟩ := R.rec_
    have ek := ask_heirs b i
    wide_line with T using hr_
    refine ⟨r, le, lu, c, b, i, rfl, R, ?_⟩
    wide_line with T using hr_
    by_cases hi : i < b.n
    · wide_line with T using hi
      refine ⟨r, le, lu, c, b, i, rfl, R, ok, hi, ?_⟩
      wide_line with T
      refine ⟨_, rfl, ?_⟩
      rw [heirs_pop]
      wide_line with T
      exact fun p hp => k.yes (.refl H) hp (by rw [ek, if_pos hi]; rfl)
    · wide_line with T using hi
      exact fun p hp => k.yes (.refl H) hp (by rw [ek, if_neg hi]; rfl)
def sp_su_kin (n : Nm) : Sp := fun vs H Q _ => ∃ (r le lu : Addr) (c : Cell) (b : Book) (i j : Nat), vs = [.ref r, .int i, .int j] ∧ RecAt n H r le lu c b ∧ BookOk b ∧ asQ n H b (.kin i j) Q
theorem ok_su_kin (T : Txt n K mg) : FnOk P w K mg base CX0 3 n.f_su_kin n.d_su_kin ["record", "i", "j"] (sp_su_kin n) := by
  refine T.F_su_kin.ok sc_su_kin (fun vs H Q E h => ?_) (fun cdv A outer s H vs Q E hr h => ?_)
  · obtain ⟨r, le, lu, c, b, i, j, rfl, _⟩ := h
    rfl
  · obtain ⟨r, le, lu, c, b, i, j, rfl, R, ok, k⟩ := h
    refine ⟨_, (pss_cons (ps_if (PW.pt (pw_or (pt_not (pt_val (pe_meth (pv 0) T.cl_Record T.M_Record_had_state (ok_Record_had_state T) (hr.mono (by decide)) T.b_Record_had_state .nil pass0 (pa_cons (pv 1) pa_nil)))) (pw_or1 (pt_not (pt_val (pe_meth (pv 0) T.cl_Record T.M_Record_had_state (ok_Record_had_state T) (hr.mono (by decide)) T.b_Record_had_state .nil pass0 (pa_cons (pv 2) pa_nil))))))) (pss_one (ps_ret (pe_lst (pa_cons (pe_gint rfl T.g_THERE_IS_NONE) pa_nil)))) pss_nil) (pss_one (ps_ret (pe_lst (pa_cons (pe_ifExp (pt_cmpR op_ne (pe_op op_and (pe_meth (pv 0) T.cl_Record T.M_Record_line (ok_Record_line T) (hr.mono (by decide)) T.b_Record_line .nil pass0 (pa_cons (pv 1) pa_nil)) (pe_meth (pv 0) T.cl_Record T.M_Record_line (ok_Record_line T) (hr.mono (by decide)) T.b_Record_line .nil pass0 (pa_cons (pv 2) pa_nil))) pe_int (nomark _)) pe_int pe_int) pa_nil))))), ?_⟩
    obtain ⟨dr, hr_⟩ := R.rec_
    have ek := ask_kin b i j
    wide_line with T using hr_
    refine ⟨r, le, lu, c, b, i, rfl, R, ?_⟩
    wide_line with T using hr_
    by_cases hi : i < b.n
    · wide_line with T using hi
      refine ⟨r, le, lu, c, b, j, rfl, R, ?_⟩
      wide_line with T using hr_
      by_cases hj : j < b.n
      · wide_line with T using hj
        refine ⟨r, le, lu, c, b, i, rfl, R, ok, hi, ?_⟩
        wide_line with T using hr_
        refine ⟨r, le, lu, c, b, j, rfl, R, ok, hj, ?_⟩
        wide_line with T
        have kb := kin_bits ok i j
        by_cases hk : b.kin i j = true
        · have hz : ¬ ((Km484.bits (b.lineOf i) &&& Km484.bits (b.lineOf j) : Nat) : Int) = 0 := fun z => kb.mp (by omega) hk
          wide_line with T using hz
          exact fun p hp => k.yes (.refl H) hp (by rw [ek, if_pos ⟨hi, hj⟩, if_pos hk]; rfl)
        · have hz : ((Km484.bits (b.lineOf i) &&& Km484.bits (b.lineOf j) : Nat) : Int) = 0 := by rw [kb.mpr hk]; rfl
          wide_line with T using hz
          exact fun p hp => k.yes (.refl H) hp (by rw [ek, if_pos ⟨hi, hj⟩, if_neg hk]; rfl)
      · wide_line with T using hj
        exact fun p hp => k.yes (.refl H) hp (by rw [ek, if_neg (fun z => hj z.2)]; rfl)
    · wide_line with T using hi
      exact fun p hp => k.yes (.refl H) hp (by rw [ek, if_neg (fun z => hi z.1)]; rfl)
def sp_su_whole (n : Nm) : Sp := fun vs H Q _ => ∃ (r le lu : Addr) (c : Cell) (b : Book) (t : Nat), vs = [.ref r, .int t] ∧ RecAt n H r le lu c b ∧ BookOk b ∧ asQ n H b (.whole t) Q
theorem ok_su_whole (T : Txt n K mg) : FnOk P w K mg base CX0 3 n.f_su_whole n.d_su_whole ["record", "t"] (sp_su_whole n) := by
  refine T.F_su_whole.ok sc_su_whole (fun vs H Q E h => ?_) (fun cdv A outer s H vs Q E hr h => ?_)
  · obtain ⟨r, le, lu, c, b, t, rfl, _⟩ := h
    rfl
  · obtain ⟨r, le, lu, c, b, t, rfl, R, ok, k⟩ := h
    refine ⟨_, (pss_cons (ps_if (pt_not (pt_val (pe_meth (pv 0) T.cl_Record T.M_Record_has_treaty (ok_Record_has_treaty T) (hr.mono (by decide)) T.b_Record_has_treaty .nil pass0 (pa_cons (pv 1) pa_nil)))) (pss_one (ps_ret (pe_lst (pa_cons (pe_gint rfl T.g_THERE_IS_NONE) pa_nil)))) pss_nil) (pss_one (ps_ret (pe_lst (pa_cons (pe_ifExp (pt_cmpR op_eq (pe_meth (pv 0) T.cl_Record T.M_Record_who_is_bound (ok_Record_who_is_bound T) (hr.mono (by decide)) T.b_Record_who_is_bound .nil pass0 (pa_cons (pv 1) pa_nil)) (pe_meth0 (pv 0) T.cl_Record T.M_Record_who_is_there (ok_Record_who_is_there T) (hr.mono (by decide)) T.b_Record_who_is_there .nil pass0) (nomark _)) pe_int pe_int) pa_nil))))), ?_⟩
    obtain ⟨dr, hr_⟩ := R.rec_
    have ek := ask_whole b t
    wide_line with T using hr_
    refine ⟨r, le, lu, c, b, t, rfl, R, ?_⟩
    wide_line with T using hr_
    by_cases ht : t < b.t
    · wide_line with T using ht
      refine ⟨r, le, lu, c, b, t, rfl, R, ok, fun H' X => ?_⟩
      obtain ⟨dr', hr2⟩ := (R.ext X).rec_
      wide_line with T using hr2
      refine ⟨r, le, lu, c, b, rfl, R.ext X, ok, fun H2 X2 => ?_⟩
      wide_line with T
      have wi := whole_iff (alive_nodup b) fun i => (b.at_ i).bound.testBit t
      by_cases hw : (b.alive.all fun i => (b.at_ i).bound.testBit t) = true
      · wide_line with T using wi.mpr hw
        exact fun p hp => k.yes (X.trans X2) hp (by rw [ek, if_pos ht, if_pos hw]; rfl)
      · have hz : ¬ Km484.bits (b.alive.filter fun i => (b.at_ i).bound.testBit t) = Km484.bits b.alive := fun z => hw (wi.mp z)
        wide_line with T using hz
        exact fun p hp => k.yes (X.trans X2) hp (by rw [ek, if_pos ht, if_neg hw]; rfl)
    · wide_line with T using ht
      exact fun p hp => k.yes (.refl H) hp (by rw [ek, if_neg ht]; rfl)
def sp_su_could (n : Nm) : Sp := fun vs H Q _ => ∃ (r le lu : Addr) (c : Cell) (b : Book) (i : Nat), vs = [.ref r, .int i] ∧ RecAt n H r le lu c b ∧ BookOk b ∧ asQ n H b (.could i) Q
theorem ok_su_could (T : Txt n K mg) : FnOk P w K mg base CX0 3 n.f_su_could n.d_su_could ["record", "i"] (sp_su_could n) := by
  refine T.F_su_could.ok sc_su_could (fun vs H Q E h => ?_) (fun cdv A outer s H vs Q E hr h => ?_)
  · obtain ⟨r, le, lu, c, b, i, rfl, _⟩ := h
    rfl
  · obtain ⟨r, le, lu, c, b, i, rfl, R, ok, k⟩ := h
    refine ⟨_, (pss_cons (ps_if (pt_not (pt_val (pe_meth (pv 0) T.cl_Record T.M_Record_has_state (ok_Record_has_state T) (hr.mono (by decide)) T.b_Record_has_state .nil pass0 (pa_cons (pv 1) pa_nil)))) (pss_one (ps_ret (pe_lst (pa_cons (pe_gint rfl T.g_THERE_IS_NONE) pa_nil)))) pss_nil) (pss_cons (ps_set (i := 2) sc_su_could.nd rfl (by first | exact Or.inl rfl | exact Or.inr rfl) (pe_ix ix_lst (pe_fldK (K := K) (pv 0)) (pv 1) (by intro _ _; rfl))) (pss_cons (ps_set (i := 3) sc_su_could.nd rfl (by first | exact Or.inl rfl | exact Or.inr rfl) (pe_op op_and (pe_fldK (K := K) (pv 2)) (pe_un un_inv (pe_fldK (K := K) (pv 2))))) (pss_one (ps_ret (pe_lst (pa_cons (pe_call (ok_how_many T) (hr.mono (by decide)) rfl T.m_how_many T.F_how_many.kp T.b_how_many .nil pass0 (pa_cons (pv 3) pa_nil)) (pa_cons (pv 3) pa_nil)))))))), ?_⟩
    obtain ⟨dr, hr_⟩ := R.rec_
    have hl := R.now.lst
    have ek := ask_could b i
    wide_line with T using hr_
    refine ⟨r, le, lu, c, b, i, rfl, R, ok, ?_⟩
    wide_line with T using (hr_, hl)
    cases hi : b.there i with
    | false =>
      wide_line with T
      exact fun p hp => k.yes (.refl H) hp (by rw [ek, if_neg (by simp [hi])]; rfl)
    | true =>
      obtain ⟨s, es, _, ea⟩ := there_some hi
      obtain ⟨a, dx, ha, hs⟩ := R.now.get es
      have so := ok.st i s es
      unfold flS at hs
      wide_line with T using (ha, hs)
      refine ⟨s.free - (s.free &&& s.bound), rfl, ?_⟩
      wide_line with T
      exact fun p hp => k.yes (.refl H) hp (by rw [ek, if_pos hi, ea, ← could_eq so.fre, pop_count (Nat.lt_of_le_of_lt (Nat.sub_le _ _) so.fre) ok.t8]; rfl)
def sp_su_would (n : Nm) : Sp := fun vs H Q _ => ∃ (r le lu : Addr) (c : Cell) (b : Book) (i p q : Nat), vs = [.ref r, .int i, .int p, .int q] ∧ RecAt n H r le lu c b ∧ BookOk b ∧ asQ n H b (.would i p q) Q
theorem ok_su_would (T : Txt n K mg) : FnOk P w K mg base CX0 3 n.f_su_would n.d_su_would ["record", "i", "p", "q"] (sp_su_would n) := by
  refine T.F_su_would.ok sc_su_would (fun vs H Q E h => ?_) (fun cdv A outer s H vs Q E hr h => ?_)
  · obtain ⟨r, le, lu, c, b, i, p, q, rfl, _⟩ := h
    rfl
  · obtain ⟨r, le, lu, c, b, i, p, q, rfl, R, ok, k⟩ := h
    refine ⟨_, (pss_cons (ps_if (pt_not (pt_val (pe_meth (pv 0) T.cl_Record T.M_Record_has_state (ok_Record_has_state T) (hr.mono (by decide)) T.b_Record_has_state .nil pass0 (pa_cons (pv 1) pa_nil)))) (pss_one (ps_ret (pe_lst (pa_cons (pe_gint rfl T.g_THERE_IS_NONE) pa_nil)))) pss_nil) (pss_cons (ps_if (pt_val (pe_call (ok_wrong_parts T) (hr.mono (by decide)) rfl T.m_wrong_parts T.F_wrong_parts.kp T.b_wrong_parts .nil pass0 (pa_cons (pv 2) (pa_cons (pv 3) pa_nil)))) (pss_one (ps_ret (pe_lst (pa_cons (pe_gint rfl T.g_WRONG_NUMBER) pa_nil)))) pss_nil) (pss_cons (ps_set (i := 4) sc_su_would.nd rfl (by first | exact Or.inl rfl | exact Or.inr rfl) (pe_fldK (K := K) (pe_ix ix_lst (pe_fldK (K := K) (pv 0)) (pv 1) (by intro _ _; rfl)))) (pss_cons (ps_set (i := 5) sc_su_would.nd rfl (by first | exact Or.inl rfl | exact Or.inr rfl) (pe_call (ok_kept_share T) (hr.mono (by decide)) rfl T.m_kept_share T.F_kept_share.kp T.b_kept_share .nil pass0 (pa_cons (pv 4) (pa_cons (pv 2) (pa_cons (pv 3) pa_nil))))) (pss_one (ps_ret (pe_lst (pa_cons (pv 5) (pa_cons (pe_op op_sub (pv 4) (pv 5)) pa_nil))))))))), ?_⟩
    obtain ⟨dr, hr_⟩ := R.rec_
    have hl := R.now.lst
    have ek := ask_would b i p q
    wide_line with T using hr_
    refine ⟨r, le, lu, c, b, i, rfl, R, ok, ?_⟩
    wide_line with T using (hr_, hl)
    cases hi : b.there i with
    | false =>
      wide_line with T
      exact fun p hp => k.yes (.refl H) hp (by rw [ek, if_neg (by simp [hi])]; rfl)
    | true =>
      obtain ⟨s, es, _, ea⟩ := there_some hi
      obtain ⟨a, dx, ha, hs⟩ := R.now.get es
      have ow : s.owes ≤ 10000000 := Nat.le_trans (owes_le es) ok.tot
      unfold flS at hs
      wide_line with T
      refine ⟨p, q, rfl, ?_⟩
      wide_line with T using (ha, hs)
      cases hpq : Km484.okParts p q with
      | false =>
        wide_line with T
        exact fun p hp => k.yes (.refl H) hp (by rw [ek, if_pos hi, if_pos hpq]; rfl)
      | true =>
        wide_line with T using (hr_, hl, ha, hs)
        have hq := hpq
        unfold Km484.okParts at hq
        simp only [Bool.and_eq_true, decide_eq_true_eq] at hq
        refine ⟨s.owes, p, q, rfl, ow, by omega, by omega, ?_⟩
        wide_line with T
        have hle : s.owes * p / (p + q) ≤ s.owes := by
          refine Nat.div_le_of_le_mul ?_
          rw [Nat.mul_comm]
          exact Nat.mul_le_mul_right _ (by omega)
        refine fun a hp => k.yes (.refl H) hp ?_
        rw [ek, if_pos hi, if_neg (by simp [hpq]), ea]
        show [V.int _, V.int _] = _
        rw [show ((s.owes - s.owes * p / (p + q) : Nat) : Int) = (s.owes : Int) - ((s.owes * p / (p + q) : Nat) : Int) by omega]
/-! ### the desk's own calls -/
def deQ (n : Nm) (H : Hp) (A : Pl) (d' : Desk) (l : List Int) (Q : VK) : Prop := ∀ H' A' p, A'.r = A.r → Fr A.foot H A'.foot H' → DeskAt n H' A' d' → H p = none → p ∉ A'.foot → H' p = some (.lst (l.map V.int)) → Q (.ref p) H'
theorem deQ.yes {H H' : Hp} {A A' : Pl} {d' : Desk} {l : List Int} {l' : List V} {Q : VK} {p : Addr} (k : deQ n H A d' l Q) (hA : A'.r = A.r) (f : Fr A.foot H A'.foot H') (D' : DeskAt n H' A' d') (hp : H' p = none) (e : l.map V.int = l') : Q (.ref p) (upd H' p (.lst l')) := by
  have x1 : Ext H' (upd H' p (.lst l')) := .new hp
  exact k _ A' p hA (f.ext x1) (D'.ext x1) (f.dom p hp) (D'.fresh hp) (by rw [e]; exact upd_same)
def sp_su_start (n : Nm) : Sp := fun vs H Q _ => ∃ (A : Pl) (d : Desk) (j t : Nat), vs = [.ref A.r, .int j, .int t] ∧ DeskAt n H A d ∧ deQ n H A (Km484.act d (.start j t)).1 (Km484Neutral.told (Km484.act d (.start j t)).2) Q
theorem ok_su_start (T : Txt n K mg) : FnOk P w K mg base CX0 4 n.f_su_start n.d_su_start ["record", "n", "t"] (sp_su_start n) := by
  refine T.F_su_start.ok sc_su_start (fun vs H Q E h => ?_) (fun cdv A outer s H vs Q E hr h => ?_)
  · obtain ⟨A, d, j, t, rfl, _⟩ := h
    rfl
  · obtain ⟨A, d, j, t, rfl, D, k⟩ := h
    refine ⟨_, (pss_cons (ps_if (pt_val (pe_call (ok_wrong_start T) (hr.mono (by decide)) rfl T.m_wrong_start T.F_wrong_start.kp T.b_wrong_start .nil pass0 (pa_cons (pv 1) (pa_cons (pv 2) pa_nil)))) (pss_one (ps_ret (pe_lst (pa_cons (pe_gint rfl T.g_WRONG_NUMBER) pa_nil)))) pss_nil) (pss_cons (ps_expr (pe_meth (pv 0) T.cl_Record T.M_Record_begin (ok_Record_begin T) (hr.mono (by decide)) T.b_Record_begin .nil pass0 (pa_cons (pv 1) (pa_cons (pv 2) pa_nil)))) (pss_one (ps_ret (pe_lst (pa_cons pe_int pa_nil)))))), ?_⟩
    obtain ⟨dr, hr_⟩ := D.rec_.rec_
    wide_line with T
    refine ⟨j, t, rfl, ?_⟩
    wide_line with T using hr_
    by_cases h : j = 0 ∨ Km484.FIRST < j ∨ t = 0 ∨ Km484.TREATIES < t
    · have e : Km484.act d (.start j t) = (d, Km484.only (-22)) := if_pos h
      rw [e] at k
      wide_line with T using h
      exact fun p hp => k.yes rfl (.refl _ H) D hp rfl
    · have e : Km484.act d (.start j t) = (⟨Km484.opened j t, [], []⟩, Km484.only 0) := if_neg h
      rw [e] at k
      wide_line with T using h
      have e1 : Km484.FIRST = 4 := rfl
      refine ⟨A.r, dr, _, j, t, rfl, hr_, .inr ⟨_, _, _, _, rfl⟩, by omega, fun H' A' hA D' f => ?_⟩
      wide_line with T
      refine fun p hp => k.yes hA ⟨fun b hb => ?_, fun b o e hb => f.old b o e fun z => hb (by rw [List.mem_singleton.mp z]; exact mem_rec List.mem_cons_self), f.dom⟩ D' hp rfl
      rcases f.new b hb with z | z
      · exact .inl (by rw [List.mem_singleton.mp z]; exact mem_rec List.mem_cons_self)
      · exact .inr z
def sp_su_back (n : Nm) : Sp := fun vs H Q _ => ∃ (A : Pl) (d : Desk), vs = [.ref A.r] ∧ DeskAt n H A d ∧ DeskOk d ∧ deQ n H A (Km484.act d .back).1 (Km484Neutral.told (Km484.act d .back).2) Q
theorem ok_su_back (T : Txt n K mg) : FnOk P w K mg base CX0 2 n.f_su_back n.d_su_back ["record"] (sp_su_back n) := by
  refine T.F_su_back.ok sc_su_back (fun vs H Q E h => ?_) (fun cdv A outer s H vs Q E hr h => ?_)
  · obtain ⟨A, d, rfl, _⟩ := h
    rfl
  · obtain ⟨A, d, rfl, D, ok, k⟩ := h
    refine ⟨_, (pss_cons (ps_if (pt_cmpR op_eq (pe_callB len_lst (by rfl) T.no_len (by decide +kernel) (pa_cons (pe_fldK (K := K) (pv 0)) pa_nil)) pe_int (nomark _)) (pss_one (ps_ret (pe_lst (pa_cons (pe_gint rfl T.g_THERE_IS_NONE) pa_nil)))) pss_nil) (pss_cons (ps_expr (pe_meth0 (pv 0) T.cl_Record T.M_Record_take_back (ok_Record_take_back T) (hr.mono (by decide)) T.b_Record_take_back .nil pass0)) (pss_one (ps_ret (pe_lst (pa_cons (pe_callB len_lst (by rfl) T.no_len (by decide +kernel) (pa_cons (pe_fldK (K := K) (pv 0)) pa_nil)) pa_nil)))))), ?_⟩
    obtain ⟨dr, hr_⟩ := D.rec_.rec_
    have hle := D.le_
    have hsn := D.past.len
    wide_line with T using (hr_, hle, List.length_map, List.length_reverse)
    cases e : d.past with
    | nil =>
      rw [e] at hsn
      have ea : Km484.act d .back = (d, Km484.only (-2)) := by simp only [Km484.act, e]
      rw [ea] at k
      wide_line with T using hsn
      exact fun p hp => k.yes rfl (.refl _ H) D hp rfl
    | cons kb rest =>
      rw [e] at hsn
      have ea : Km484.act d .back = (⟨kb, rest, d.now :: d.future⟩, Km484.only (Km484.n2i rest.length)) := by simp only [Km484.act, e]
      rw [ea] at k
      have hz : ¬ ((A.ps.length : Nat) : Int) = 0 := by rw [hsn, List.length_cons]; omega
      wide_line with T using hz
      have okp := ok.past kb (by rw [e]; exact List.mem_cons_self)
      refine ⟨A, d, kb, rest, rfl, D, e, okp.2, by have := ok.len; omega, fun H' A' hA D' f => ?_⟩
      obtain ⟨dr', hr'⟩ := D'.rec_.rec_
      have hle' := D'.le_
      have hsn' := D'.past.len
      rw [hA] at hr'
      wide_line with T using (hr', hle', List.length_map, List.length_reverse, hsn')
      exact fun p hp => k.yes hA f D' hp rfl
def sp_su_again (n : Nm) : Sp := fun vs H Q _ => ∃ (A : Pl) (d : Desk), vs = [.ref A.r] ∧ DeskAt n H A d ∧ DeskOk d ∧ deQ n H A (Km484.act d .again).1 (Km484Neutral.told (Km484.act d .again).2) Q
theorem ok_su_again (T : Txt n K mg) : FnOk P w K mg base CX0 2 n.f_su_again n.d_su_again ["record"] (sp_su_again n) := by
  refine T.F_su_again.ok sc_su_again (fun vs H Q E h => ?_) (fun cdv A outer s H vs Q E hr h => ?_)
  · obtain ⟨A, d, rfl, _⟩ := h
    rfl
  · obtain ⟨A, d, rfl, D, ok, k⟩ := h
    refine ⟨_, (pss_cons (ps_if (pt_cmpR op_eq (pe_callB len_lst (by rfl) T.no_len (by decide +kernel) (pa_cons (pe_fldK (K := K) (pv 0)) pa_nil)) pe_int (nomark _)) (pss_one (ps_ret (pe_lst (pa_cons (pe_gint rfl T.g_THERE_IS_NONE) pa_nil)))) pss_nil) (pss_cons (ps_expr (pe_meth0 (pv 0) T.cl_Record T.M_Record_do_again (ok_Record_do_again T) (hr.mono (by decide)) T.b_Record_do_again .nil pass0)) (pss_one (ps_ret (pe_lst (pa_cons (pe_callB len_lst (by rfl) T.no_len (by decide +kernel) (pa_cons (pe_fldK (K := K) (pv 0)) pa_nil)) pa_nil)))))), ?_⟩
    obtain ⟨dr, hr_⟩ := D.rec_.rec_
    have hlu := D.lu_
    have hsn := D.fut.len
    wide_line with T using (hr_, hlu, List.length_map, List.length_reverse)
    cases e : d.future with
    | nil =>
      rw [e] at hsn
      have ea : Km484.act d .again = (d, Km484.only (-2)) := by simp only [Km484.act, e]
      rw [ea] at k
      wide_line with T using hsn
      exact fun p hp => k.yes rfl (.refl _ H) D hp rfl
    | cons kb rest =>
      rw [e] at hsn
      have ol := ok.len
      rw [e, List.length_cons] at ol
      have et : (d.now :: d.past).take Km484.PAST = d.now :: d.past := List.take_of_length_le (by rw [List.length_cons]; show _ ≤ 20; omega)
      have ea : Km484.act d .again = (⟨kb, d.now :: d.past, rest⟩, Km484.only (Km484.n2i rest.length)) := by simp only [Km484.act, e, et]
      rw [ea] at k
      have hz : ¬ ((A.fs.length : Nat) : Int) = 0 := by rw [hsn, List.length_cons]; omega
      wide_line with T using hz
      have okp := ok.fut kb (by rw [e]; exact List.mem_cons_self)
      refine ⟨A, d, kb, rest, rfl, D, e, okp.2, by omega, fun H' A' hA D' f => ?_⟩
      obtain ⟨dr', hr'⟩ := D'.rec_.rec_
      have hlu' := D'.lu_
      have hsn' := D'.fut.len
      rw [hA] at hr'
      wide_line with T using (hr', hlu', List.length_map, List.length_reverse, hsn')
      exact fun p hp => k.yes hA f D' hp rfl
def sp_su_state (n : Nm) : Sp := fun vs H Q _ => ∃ (A : Pl) (d : Desk), vs = [.ref A.r] ∧ DeskAt n H A d ∧ DeskOk d ∧ deQ n H A (Km484.act d .state).1 (Km484Neutral.told (Km484.act d .state).2) Q
theorem ok_su_state (T : Txt n K mg) : FnOk P w K mg base CX0 3 n.f_su_state n.d_su_state ["record"] (sp_su_state n) := by
  refine T.F_su_state.ok sc_su_state (fun vs H Q E h => ?_) (fun cdv A outer s H vs Q E hr h => ?_)
  · obtain ⟨A, d, rfl, _⟩ := h
    rfl
  · obtain ⟨A, d, rfl, D, ok, k⟩ := h
    refine ⟨_, (pss_one (ps_ret (pe_lst (pa_cons (pe_callB len_lst (by rfl) T.no_len (by decide +kernel) (pa_cons (pe_fldK (K := K) (pv 0)) pa_nil)) (pa_cons (pe_fldK (K := K) (pv 0)) (pa_cons (pe_meth0 (pv 0) T.cl_Record T.M_Record_who_is_there (ok_Record_who_is_there T) (hr.mono (by decide)) T.b_Record_who_is_there .nil pass0) (pa_cons (pe_callB len_lst (by rfl) T.no_len (by decide +kernel) (pa_cons (pe_fldK (K := K) (pv 0)) pa_nil)) (pa_cons (pe_callB len_lst (by rfl) T.no_len (by decide +kernel) (pa_cons (pe_fldK (K := K) (pv 0)) pa_nil)) pa_nil)))))))), ?_⟩
    obtain ⟨dr, hr_⟩ := D.rec_.rec_
    have hl := D.rec_.now.lst
    have hlen := D.rec_.now.len
    wide_line with T using (hr_, hl, List.length_map)
    refine ⟨A.r, A.le, A.lu, A.c, d.now, rfl, D.rec_, ok.now, fun H' X => ?_⟩
    have D' := D.ext X
    obtain ⟨dr', hr'⟩ := D'.rec_.rec_
    have hle := D'.le_
    have hlu := D'.lu_
    wide_line with T using (hr', hle, hlu, List.length_map, List.length_reverse)
    refine fun p hp => k.yes rfl (.of_ext X) D' hp ?_
    rw [hlen, D.past.len, D.fut.len]
    rfl
def sp_make_change (n : Nm) : Sp := fun vs H Q _ => ∃ (r le lu : Addr) (c : Cell) (b : Book) (x : Call) (num : Int) (args : List Int) (g : Addr), vs = [.ref r, .int num, .ref g] ∧ isChg x = true ∧ enc x = num :: args ∧ H g = some (.lst (args.map V.int)) ∧ RecAt n H r le lu c b ∧ BookOk b ∧ chQ n H r le lu c b x Q
theorem ok_make_change (T : Txt n K mg) : FnOk P w K mg base CX0 5 n.f_make_change n.d_make_change ["record", "number", "given"] (sp_make_change n) := by
  refine T.F_make_change.ok sc_make_change (fun vs H Q E h => ?_) (fun cdv A outer s H vs Q E hr h => ?_)
  · obtain ⟨r, le, lu, c, b, x, num, args, g, rfl, _⟩ := h
    rfl
  · obtain ⟨r, le, lu, c, b, x, num, args, g, rfl, hx, he, hg, R, ok, k⟩ := h
    refine ⟨_, (pss_cons (ps_if (pt_cmpR op_eq (pv 1) pe_int (nomark _)) (pss_one (ps_ret (pe_call (ok_su_sign T) (hr.mono (by decide)) rfl T.m_su_sign T.F_su_sign.kp T.b_su_sign .nil pass0 (pa_cons (pv 0) (pa_cons (pe_ix ix_lst (pv 2) pe_int (by intro _ _; rfl)) (pa_cons (pe_ix ix_lst (pv 2) pe_int (by intro _ _; rfl)) pa_nil)))))) pss_nil) (pss_cons (ps_if (pt_cmpR op_eq (pv 1) pe_int (nomark _)) (pss_one (ps_ret (pe_call (ok_su_leave T) (hr.mono (by decide)) rfl T.m_su_leave T.F_su_leave.kp T.b_su_leave .nil pass0 (pa_cons (pv 0) (pa_cons (pe_ix ix_lst (pv 2) pe_int (by intro _ _; rfl)) (pa_cons (pe_ix ix_lst (pv 2) pe_int (by intro _ _; rfl)) pa_nil)))))) pss_nil) (pss_cons (ps_if (pt_cmpR op_eq (pv 1) pe_int (nomark _)) (pss_one (ps_ret (pe_call (ok_su_owe T) (hr.mono (by decide)) rfl T.m_su_owe T.F_su_owe.kp T.b_su_owe .nil pass0 (pa_cons (pv 0) (pa_cons (pe_ix ix_lst (pv 2) pe_int (by intro _ _; rfl)) (pa_cons (pe_ix ix_lst (pv 2) pe_int (by intro _ _; rfl)) pa_nil)))))) pss_nil) (pss_cons (ps_if (pt_cmpR op_eq (pv 1) pe_int (nomark _)) (pss_one (ps_ret (pe_call (ok_su_pay T) (hr.mono (by decide)) rfl T.m_su_pay T.F_su_pay.kp T.b_su_pay .nil pass0 (pa_cons (pv 0) (pa_cons (pe_ix ix_lst (pv 2) pe_int (by intro _ _; rfl)) (pa_cons (pe_ix ix_lst (pv 2) pe_int (by intro _ _; rfl)) pa_nil)))))) pss_nil) (pss_cons (ps_if (pt_cmpR op_eq (pv 1) pe_int (nomark _)) (pss_one (ps_ret (pe_call (ok_su_part T) (hr.mono (by decide)) rfl T.m_su_part T.F_su_part.kp T.b_su_part .nil pass0 (pa_cons (pv 0) (pa_cons (pe_ix ix_lst (pv 2) pe_int (by intro _ _; rfl)) (pa_cons (pe_ix ix_lst (pv 2) pe_int (by intro _ _; rfl)) (pa_cons (pe_ix ix_lst (pv 2) pe_int (by intro _ _; rfl)) (pa_cons (pe_ix ix_lst (pv 2) pe_int (by intro _ _; rfl)) pa_nil)))))))) pss_nil) (pss_cons (ps_if (pt_cmpR op_eq (pv 1) pe_int (nomark _)) (pss_one (ps_ret (pe_call (ok_su_join T) (hr.mono (by decide)) rfl T.m_su_join T.F_su_join.kp T.b_su_join .nil pass0 (pa_cons (pv 0) (pa_cons (pe_ix ix_lst (pv 2) pe_int (by intro _ _; rfl)) (pa_cons (pe_ix ix_lst (pv 2) pe_int (by intro _ _; rfl)) (pa_cons (pe_ix ix_lst (pv 2) pe_int (by intro _ _; rfl)) pa_nil))))))) pss_nil) (pss_one (ps_ret (pe_call (ok_su_follow T) (hr.mono (by decide)) rfl T.m_su_follow T.F_su_follow.kp T.b_su_follow .nil pass0 (pa_cons (pv 0) (pa_cons (pe_ix ix_lst (pv 2) pe_int (by intro _ _; rfl)) (pa_cons (pe_ix ix_lst (pv 2) pe_int (by intro _ _; rfl)) pa_nil)))))))))))), ?_⟩
    cases x with
    | sign i t =>
      obtain ⟨rfl, rfl⟩ := List.cons.inj he
      wide_line with T using hg
      exact ⟨r, le, lu, c, b, i, t, rfl, R, ok, k⟩
    | leave i t =>
      obtain ⟨rfl, rfl⟩ := List.cons.inj he
      wide_line with T using hg
      exact ⟨r, le, lu, c, b, i, t, rfl, R, ok, k⟩
    | owe i x =>
      obtain ⟨rfl, rfl⟩ := List.cons.inj he
      wide_line with T using hg
      exact ⟨r, le, lu, c, b, i, x, rfl, R, ok, k⟩
    | pay i x =>
      obtain ⟨rfl, rfl⟩ := List.cons.inj he
      wide_line with T using hg
      exact ⟨r, le, lu, c, b, i, x, rfl, R, ok, k⟩
    | part i mode p q =>
      obtain ⟨rfl, rfl⟩ := List.cons.inj he
      wide_line with T using hg
      exact ⟨r, le, lu, c, b, i, mode, p, q, rfl, R, ok, k⟩
    | join i j mode =>
      obtain ⟨rfl, rfl⟩ := List.cons.inj he
      wide_line with T using hg
      exact ⟨r, le, lu, c, b, i, j, mode, rfl, R, ok, k⟩
    | follow i t =>
      obtain ⟨rfl, rfl⟩ := List.cons.inj he
      wide_line with T using hg
      exact ⟨r, le, lu, c, b, i, t, rfl, R, ok, k⟩
    | _ => cases hx
def grpA : Call → Bool
  | .treaties _ => true
  | .bound _ => true
  | .common _ _ => true
  | .debt _ => true
  | .total => true
  | _ => false
def grpB : Call → Bool
  | .from_ _ => true
  | .line _ => true
  | .heirs _ => true
  | .kin _ _ => true
  | _ => false
def grpC : Call → Bool
  | .whole _ => true
  | .could _ => true
  | .would _ _ _ => true
  | .back => true
  | .again => true
  | .state => true
  | _ => false
theorem enc_grp {x : Call} {num : Int} {args : List Int} (he : enc x = num :: args) : (num = 0 ∧ ∃ j t, x = .start j t) ∨ (1 ≤ num ∧ num ≤ 7 ∧ isChg x = true ∧ ∀ k t, x ≠ .start k t) ∨ (8 ≤ num ∧ num ≤ 12 ∧ grpA x = true ∧ isAsk x = true ∧ ∀ k t, x ≠ .start k t) ∨
    (13 ≤ num ∧ num ≤ 16 ∧ grpB x = true ∧ isAsk x = true ∧ ∀ k t, x ≠ .start k t) ∨ (17 ≤ num ∧ grpC x = true ∧ ∀ k t, x ≠ .start k t) := by
  cases x with
  | start j t =>
    obtain ⟨rfl, _⟩ := List.cons.inj he
    exact .inl ⟨rfl, j, t, rfl⟩
  | _ =>
    obtain ⟨rfl, _⟩ := List.cons.inj he
    first
      | exact .inr (.inl ⟨by decide, by decide, rfl, fun _ _ e => nomatch e⟩)
      | exact .inr (.inr (.inl ⟨by decide, by decide, rfl, rfl, fun _ _ e => nomatch e⟩))
      | exact .inr (.inr (.inr (.inl ⟨by decide, by decide, rfl, rfl, fun _ _ e => nomatch e⟩)))
      | exact .inr (.inr (.inr (.inr ⟨by decide, rfl, fun _ _ e => nomatch e⟩)))
def sp_answer_of_treaties_and_debts (n : Nm) : Sp := fun vs H Q _ => ∃ (r le lu : Addr) (c : Cell) (b : Book) (x : Call) (num : Int) (args : List Int) (g : Addr), vs = [.ref r, .int num, .ref g] ∧ grpA x = true ∧ enc x = num :: args ∧ H g = some (.lst (args.map V.int)) ∧ RecAt n H r le lu c b ∧ BookOk b ∧ asQ n H b x Q
theorem ok_answer_of_treaties_and_debts (T : Txt n K mg) : FnOk P w K mg base CX0 4 n.f_answer_of_treaties_and_debts n.d_answer_of_treaties_and_debts ["record", "number", "given"] (sp_answer_of_treaties_and_debts n) := by
  refine T.F_answer_of_treaties_and_debts.ok sc_answer_of_treaties_and_debts (fun vs H Q E h => ?_) (fun cdv A outer s H vs Q E hr h => ?_)
  · obtain ⟨r, le, lu, c, b, x, num, args, g, rfl, _⟩ := h
    rfl
  · obtain ⟨r, le, lu, c, b, x, num, args, g, rfl, hx, he, hg, R, ok, k⟩ := h
    refine ⟨_, (pss_cons (ps_if (pt_cmpR op_eq (pv 1) pe_int (nomark _)) (pss_one (ps_ret (pe_call (ok_su_treaties T) (hr.mono (by decide)) rfl T.m_su_treaties T.F_su_treaties.kp T.b_su_treaties .nil pass0 (pa_cons (pv 0) (pa_cons (pe_ix ix_lst (pv 2) pe_int (by intro _ _; rfl)) pa_nil))))) pss_nil) (pss_cons (ps_if (pt_cmpR op_eq (pv 1) pe_int (nomark _)) (pss_one (ps_ret (pe_call (ok_su_bound T) (hr.mono (by decide)) rfl T.m_su_bound T.F_su_bound.kp T.b_su_bound .nil pass0 (pa_cons (pv 0) (pa_cons (pe_ix ix_lst (pv 2) pe_int (by intro _ _; rfl)) pa_nil))))) pss_nil) (pss_cons (ps_if (pt_cmpR op_eq (pv 1) pe_int (nomark _)) (pss_one (ps_ret (pe_call (ok_su_common T) (hr.mono (by decide)) rfl T.m_su_common T.F_su_common.kp T.b_su_common .nil pass0 (pa_cons (pv 0) (pa_cons (pe_ix ix_lst (pv 2) pe_int (by intro _ _; rfl)) (pa_cons (pe_ix ix_lst (pv 2) pe_int (by intro _ _; rfl)) pa_nil)))))) pss_nil) (pss_cons (ps_if (pt_cmpR op_eq (pv 1) pe_int (nomark _)) (pss_one (ps_ret (pe_call (ok_su_debt T) (hr.mono (by decide)) rfl T.m_su_debt T.F_su_debt.kp T.b_su_debt .nil pass0 (pa_cons (pv 0) (pa_cons (pe_ix ix_lst (pv 2) pe_int (by intro _ _; rfl)) pa_nil))))) pss_nil) (pss_one (ps_ret (pe_call (ok_su_total T) (hr.mono (by decide)) rfl T.m_su_total T.F_su_total.kp T.b_su_total .nil pass0 (pa_cons (pv 0) pa_nil)))))))), ?_⟩
    cases x with
    | treaties i =>
      obtain ⟨rfl, rfl⟩ := List.cons.inj he
      wide_line with T using hg
      exact ⟨r, le, lu, c, b, i, rfl, R, ok, k⟩
    | bound t =>
      obtain ⟨rfl, rfl⟩ := List.cons.inj he
      wide_line with T using hg
      exact ⟨r, le, lu, c, b, t, rfl, R, ok, k⟩
    | common i j =>
      obtain ⟨rfl, rfl⟩ := List.cons.inj he
      wide_line with T using hg
      exact ⟨r, le, lu, c, b, i, j, rfl, R, ok, k⟩
    | debt i =>
      obtain ⟨rfl, rfl⟩ := List.cons.inj he
      wide_line with T using hg
      exact ⟨r, le, lu, c, b, i, rfl, R, ok, k⟩
    | total =>
      obtain ⟨rfl, rfl⟩ := List.cons.inj he
      wide_line with T using hg
      exact ⟨r, le, lu, c, b, rfl, R, ok, k⟩
    | _ => cases hx
def sp_answer_of_descent (n : Nm) : Sp := fun vs H Q _ => ∃ (r le lu : Addr) (c : Cell) (b : Book) (x : Call) (num : Int) (args : List Int) (g : Addr), vs = [.ref r, .int num, .ref g] ∧ grpB x = true ∧ enc x = num :: args ∧ H g = some (.lst (args.map V.int)) ∧ RecAt n H r le lu c b ∧ BookOk b ∧ asQ n H b x Q
theorem ok_answer_of_descent (T : Txt n K mg) : FnOk P w K mg base CX0 5 n.f_answer_of_descent n.d_answer_of_descent ["record", "number", "given"] (sp_answer_of_descent n) := by
  refine T.F_answer_of_descent.ok sc_answer_of_descent (fun vs H Q E h => ?_) (fun cdv A outer s H vs Q E hr h => ?_)
  · obtain ⟨r, le, lu, c, b, x, num, args, g, rfl, _⟩ := h
    rfl
  · obtain ⟨r, le, lu, c, b, x, num, args, g, rfl, hx, he, hg, R, ok, k⟩ := h
    refine ⟨_, (pss_cons (ps_if (pt_cmpR op_eq (pv 1) pe_int (nomark _)) (pss_one (ps_ret (pe_call (ok_su_from T) (hr.mono (by decide)) rfl T.m_su_from T.F_su_from.kp T.b_su_from .nil pass0 (pa_cons (pv 0) (pa_cons (pe_ix ix_lst (pv 2) pe_int (by intro _ _; rfl)) pa_nil))))) pss_nil) (pss_cons (ps_if (pt_cmpR op_eq (pv 1) pe_int (nomark _)) (pss_one (ps_ret (pe_call (ok_su_line T) (hr.mono (by decide)) rfl T.m_su_line T.F_su_line.kp T.b_su_line .nil pass0 (pa_cons (pv 0) (pa_cons (pe_ix ix_lst (pv 2) pe_int (by intro _ _; rfl)) pa_nil))))) pss_nil) (pss_cons (ps_if (pt_cmpR op_eq (pv 1) pe_int (nomark _)) (pss_one (ps_ret (pe_call (ok_su_heirs T) (hr.mono (by decide)) rfl T.m_su_heirs T.F_su_heirs.kp T.b_su_heirs .nil pass0 (pa_cons (pv 0) (pa_cons (pe_ix ix_lst (pv 2) pe_int (by intro _ _; rfl)) pa_nil))))) pss_nil) (pss_one (ps_ret (pe_call (ok_su_kin T) (hr.mono (by decide)) rfl T.m_su_kin T.F_su_kin.kp T.b_su_kin .nil pass0 (pa_cons (pv 0) (pa_cons (pe_ix ix_lst (pv 2) pe_int (by intro _ _; rfl)) (pa_cons (pe_ix ix_lst (pv 2) pe_int (by intro _ _; rfl)) pa_nil))))))))), ?_⟩
    cases x with
    | from_ i =>
      obtain ⟨rfl, rfl⟩ := List.cons.inj he
      wide_line with T using hg
      exact ⟨r, le, lu, c, b, i, rfl, R, ok, k⟩
    | line i =>
      obtain ⟨rfl, rfl⟩ := List.cons.inj he
      wide_line with T using hg
      exact ⟨r, le, lu, c, b, i, rfl, R, ok, k⟩
    | heirs i =>
      obtain ⟨rfl, rfl⟩ := List.cons.inj he
      wide_line with T using hg
      exact ⟨r, le, lu, c, b, i, rfl, R, ok, k⟩
    | kin i j =>
      obtain ⟨rfl, rfl⟩ := List.cons.inj he
      wide_line with T using hg
      exact ⟨r, le, lu, c, b, i, j, rfl, R, ok, k⟩
    | _ => cases hx
theorem deQ.asks {H : Hp} {A : Pl} {d : Desk} {x : Call} {Q : VK} (k : deQ n H A (Km484.act d x).1 (Km484Neutral.told (Km484.act d x).2) Q) (D : DeskAt n H A d) (hx : isAsk x = true) : asQ n H d.now x Q := fun H' p X hp e => by
  obtain ⟨e1, e2⟩ := act_ask d x hx
  rw [e1, e2] at k
  exact k H' A p rfl (.of_ext X) (D.ext X) hp (D.fresh hp) e
def sp_answer_the_rest (n : Nm) : Sp := fun vs H Q _ => ∃ (A : Pl) (d : Desk) (x : Call) (num : Int) (args : List Int) (g : Addr), vs = [.ref A.r, .int num, .ref g] ∧ grpC x = true ∧ enc x = num :: args ∧ H g = some (.lst (args.map V.int)) ∧ DeskAt n H A d ∧ DeskOk d ∧ deQ n H A (Km484.act d x).1 (Km484Neutral.told (Km484.act d x).2) Q
theorem ok_answer_the_rest (T : Txt n K mg) : FnOk P w K mg base CX0 4 n.f_answer_the_rest n.d_answer_the_rest ["record", "number", "given"] (sp_answer_the_rest n) := by
  refine T.F_answer_the_rest.ok sc_answer_the_rest (fun vs H Q E h => ?_) (fun cdv A outer s H vs Q E hr h => ?_)
  · obtain ⟨A, d, x, num, args, g, rfl, _⟩ := h
    rfl
  · obtain ⟨A, d, x, num, args, g, rfl, hx, he, hg, D, ok, k⟩ := h
    refine ⟨_, (pss_cons (ps_if (pt_cmpR op_eq (pv 1) pe_int (nomark _)) (pss_one (ps_ret (pe_call (ok_su_whole T) (hr.mono (by decide)) rfl T.m_su_whole T.F_su_whole.kp T.b_su_whole .nil pass0 (pa_cons (pv 0) (pa_cons (pe_ix ix_lst (pv 2) pe_int (by intro _ _; rfl)) pa_nil))))) pss_nil) (pss_cons (ps_if (pt_cmpR op_eq (pv 1) pe_int (nomark _)) (pss_one (ps_ret (pe_call (ok_su_could T) (hr.mono (by decide)) rfl T.m_su_could T.F_su_could.kp T.b_su_could .nil pass0 (pa_cons (pv 0) (pa_cons (pe_ix ix_lst (pv 2) pe_int (by intro _ _; rfl)) pa_nil))))) pss_nil) (pss_cons (ps_if (pt_cmpR op_eq (pv 1) pe_int (nomark _)) (pss_one (ps_ret (pe_call (ok_su_would T) (hr.mono (by decide)) rfl T.m_su_would T.F_su_would.kp T.b_su_would .nil pass0 (pa_cons (pv 0) (pa_cons (pe_ix ix_lst (pv 2) pe_int (by intro _ _; rfl)) (pa_cons (pe_ix ix_lst (pv 2) pe_int (by intro _ _; rfl)) (pa_cons (pe_ix ix_lst (pv 2) pe_int (by intro _ _; rfl)) pa_nil))))))) pss_nil) (pss_cons (ps_if (pt_cmpR op_eq (pv 1) pe_int (nomark _)) (pss_one (ps_ret (pe_call (ok_su_back T) (hr.mono (by decide)) rfl T.m_su_back T.F_su_back.kp T.b_su_back .nil pass0 (pa_cons (pv 0) pa_nil)))) pss_nil) (pss_cons (ps_if (pt_cmpR op_eq (pv 1) pe_int (nomark _)) (pss_one (ps_ret (pe_call (ok_su_again T) (hr.mono (by decide)) rfl T.m_su_again T.F_su_again.kp T.b_su_again .nil pass0 (pa_cons (pv 0) pa_nil)))) pss_nil) (pss_one (ps_ret (pe_call (ok_su_state T) (hr.mono (by decide)) rfl T.m_su_state T.F_su_state.kp T.b_su_state .nil pass0 (pa_cons (pv 0) pa_nil))))))))), ?_⟩
    cases x with
    | whole t =>
      obtain ⟨rfl, rfl⟩ := List.cons.inj he
      wide_line with T using hg
      exact ⟨_, _, _, _, _, t, rfl, D.rec_, ok.now, k.asks D rfl⟩
    | could i =>
      obtain ⟨rfl, rfl⟩ := List.cons.inj he
      wide_line with T using hg
      exact ⟨_, _, _, _, _, i, rfl, D.rec_, ok.now, k.asks D rfl⟩
    | would i p q =>
      obtain ⟨rfl, rfl⟩ := List.cons.inj he
      wide_line with T using hg
      exact ⟨_, _, _, _, _, i, p, q, rfl, D.rec_, ok.now, k.asks D rfl⟩
    | back =>
      obtain ⟨rfl, rfl⟩ := List.cons.inj he
      wide_line with T using hg
      exact ⟨A, d, rfl, D, ok, k⟩
    | again =>
      obtain ⟨rfl, rfl⟩ := List.cons.inj he
      wide_line with T using hg
      exact ⟨A, d, rfl, D, ok, k⟩
    | state =>
      obtain ⟨rfl, rfl⟩ := List.cons.inj he
      wide_line with T using hg
      exact ⟨A, d, rfl, D, ok, k⟩
    | _ => cases hx
def sp_answer_change (n : Nm) : Sp := fun vs H Q _ => ∃ (A : Pl) (d : Desk) (x : Call) (num : Int) (args : List Int) (g : Addr), vs = [.ref A.r, .int num, .ref g] ∧ isChg x = true ∧ enc x = num :: args ∧ H g = some (.lst (args.map V.int)) ∧ DeskAt n H A d ∧ DeskOk d ∧ deQ n H A (Km484.act d x).1 (Km484Neutral.told (Km484.act d x).2) Q
theorem ok_answer_change (T : Txt n K mg) : FnOk P w K mg base CX0 6 n.f_answer_change n.d_answer_change ["record", "number", "given"] (sp_answer_change n) := by
  refine T.F_answer_change.ok sc_answer_change (fun vs H Q E h => ?_) (fun cdv A outer s H vs Q E hr h => ?_)
  · obtain ⟨A, d, x, num, args, g, rfl, _⟩ := h
    rfl
  · obtain ⟨A, d, x, num, args, g, rfl, hx, he, hg, D, ok, k⟩ := h
    refine ⟨_, (pss_cons (ps_set (i := 3) sc_answer_change.nd rfl (by first | exact Or.inl rfl | exact Or.inr rfl) (pe_meth0 (pv 0) T.cl_Record T.M_Record_copied_states (ok_Record_copied_states T) (hr.mono (by decide)) T.b_Record_copied_states .nil pass0)) (pss_cons (ps_set (i := 4) sc_answer_change.nd rfl (by first | exact Or.inl rfl | exact Or.inr rfl) (pe_call (ok_make_change T) (hr.mono (by decide)) rfl T.m_make_change T.F_make_change.kp T.b_make_change .nil pass0 (pa_cons (pv 0) (pa_cons (pv 1) (pa_cons (pv 2) pa_nil))))) (pss_cons (ps_if (pt_cmpR op_ge (pe_ix ix_lst (pv 4) pe_int (by intro _ _; rfl)) pe_int (nomark _)) (pss_one (ps_expr (pe_meth (pv 0) T.cl_Record T.M_Record_keep_change (ok_Record_keep_change T) (hr.mono (by decide)) T.b_Record_keep_change .nil pass0 (pa_cons (pv 3) pa_nil)))) pss_nil) (pss_one (ps_ret (pv 4)))))), ?_⟩
    obtain ⟨dr, hr_⟩ := D.rec_.rec_
    wide_line with T using hr_
    refine ⟨A.r, A.le, A.lu, A.c, d.now, rfl, D.rec_, ok.now, fun H1 cb X S nd new => ?_⟩
    wide_line with T
    have D1 := D.ext X
    refine ⟨A.r, A.le, A.lu, A.c, d.now, x, num, args, g, rfl, hx, he, X _ _ hg, D1.rec_, ok.now, fun H2 c' p f R hp hpc e => ?_⟩
    obtain ⟨D2, fr⟩ := D1.change f R
    have hp0 : H p = none := X.none hp
    have pA : p ∉ A.foot := D.fresh hp0
    have pA2 : p ∉ ({ A with c := c' } : Pl).foot := fun z => by
      rcases List.mem_append.mp z with z | z
      · exact hpc z
      · exact pA (List.mem_append_right _ z)
    wide_line with T using e
    rcases act_chg d x hx with ⟨h0, ea⟩ | ⟨h0, eb, ea⟩
    · obtain ⟨dr2, hr2⟩ := D2.rec_.rec_
      have hr2 : H2 A.r = _ := hr2
      wide_line with T using (h0, hr2)
      have cbA : ∀ y ∈ foot cb, y ∉ A.foot := fun y hy => D.fresh (new y hy)
      have S2 : Snap n H2 cb d.now.states := S.mono fun y hy o e => f.old y o e fun z => cbA y hy (mem_rec z)
      have cbA2 : ∀ y ∈ foot cb, y ∉ ({ A with c := c' } : Pl).foot := fun y hy z => by
        rcases List.mem_append.mp z with z | z
        · rcases f.new y z with z | z
          · exact cbA y hy (mem_rec z)
          · obtain ⟨o, e⟩ := S.has hy
            rw [z] at e; cases e
        · exact cbA y hy (List.mem_append_right _ z)
      have pl : d.past.length ≤ 20 := by have := ok.len; omega
      refine ⟨{ A with c := c' }, ⟨(chg d.now x).1, d.past, d.future⟩, d.now, cb, rfl, D2, pl, S2, nd, cbA2, fun H3 A3 hA3 D3 f3 => ?_⟩
      wide_line with T
      rw [ea] at k
      have pcb : p ∉ foot cb := fun z => by
        obtain ⟨o, e⟩ := S.has z
        rw [hp] at e; cases e
      refine k H3 A3 p hA3 ⟨fun y hy => ?_, fun y o e hy => ?_, fun y e => X.none (f.dom y (f3.dom y e))⟩ D3 hp0 (fun z => ?_) (f3.old p _ e (fun z => ?_))
      · rcases f3.new y hy with z | z
        · rcases List.mem_append.mp z with z | z
          · rcases fr.new y z with z | z
            · exact .inl z
            · exact .inr (X.none z)
          · exact .inr (new y z)
        · exact .inr (X.none (f.dom y z))
      · refine f3.old y o (fr.old y o (X y o e) hy) fun z => ?_
        rcases List.mem_append.mp z with z | z
        · rcases fr.new y z with z | z
          · exact hy z
          · rw [X y o e] at z; cases z
        · rw [new y z] at e; cases e
      · rcases f3.new p z with z | z
        · rcases List.mem_append.mp z with z | z
          · exact pA2 z
          · exact pcb z
        · rw [e] at z; cases z
      · rcases List.mem_append.mp z with z | z
        · exact pA2 z
        · exact pcb z
    · have h0' : ¬ (0 : Int) ≤ (chg d.now x).2 := by omega
      wide_line with T using h0'
      rw [ea] at k
      rw [eb] at D2
      exact k H2 { A with c := c' } p rfl (X.fr fr) D2 hp0 pA2 e
def sp_answer_call (n : Nm) : Sp := fun vs H Q _ => ∃ (A : Pl) (d : Desk) (x : Call) (num : Int) (args : List Int) (g : Addr), vs = [.ref A.r, .int num, .ref g] ∧ enc x = num :: args ∧ H g = some (.lst (args.map V.int)) ∧ DeskAt n H A d ∧ (DeskOk d ∨ ∃ k t, x = .start k t) ∧ deQ n H A (Km484.act d x).1 (Km484Neutral.told (Km484.act d x).2) Q
theorem ok_answer_call (T : Txt n K mg) : FnOk P w K mg base CX0 7 n.f_answer_call n.d_answer_call ["record", "number", "given"] (sp_answer_call n) := by
  refine T.F_answer_call.ok sc_answer_call (fun vs H Q E h => ?_) (fun cdv A outer s H vs Q E hr h => ?_)
  · obtain ⟨A, d, x, num, args, g, rfl, _⟩ := h
    rfl
  · obtain ⟨A, d, x, num, args, g, rfl, he, hg, D, ok, k⟩ := h
    refine ⟨_, (pss_cons (ps_if (pt_cmpR op_eq (pv 1) pe_int (nomark _)) (pss_one (ps_ret (pe_call (ok_su_start T) (hr.mono (by decide)) rfl T.m_su_start T.F_su_start.kp T.b_su_start .nil pass0 (pa_cons (pv 0) (pa_cons (pe_ix ix_lst (pv 2) pe_int (by intro _ _; rfl)) (pa_cons (pe_ix ix_lst (pv 2) pe_int (by intro _ _; rfl)) pa_nil)))))) pss_nil) (pss_cons (ps_if (pt_cmpR op_le (pv 1) (pe_gint rfl T.g_LAST_CHANGE) (nomark _)) (pss_one (ps_ret (pe_call (ok_answer_change T) (hr.mono (by decide)) rfl T.m_answer_change T.F_answer_change.kp T.b_answer_change .nil pass0 (pa_cons (pv 0) (pa_cons (pv 1) (pa_cons (pv 2) pa_nil)))))) pss_nil) (pss_cons (ps_if (pt_cmpR op_le (pv 1) (pe_gint rfl T.g_LAST_OF_TREATIES_AND_DEBTS) (nomark _)) (pss_one (ps_ret (pe_call (ok_answer_of_treaties_and_debts T) (hr.mono (by decide)) rfl T.m_answer_of_treaties_and_debts T.F_answer_of_treaties_and_debts.kp T.b_answer_of_treaties_and_debts .nil pass0 (pa_cons (pv 0) (pa_cons (pv 1) (pa_cons (pv 2) pa_nil)))))) pss_nil) (pss_cons (ps_if (pt_cmpR op_le (pv 1) (pe_gint rfl T.g_LAST_OF_DESCENT) (nomark _)) (pss_one (ps_ret (pe_call (ok_answer_of_descent T) (hr.mono (by decide)) rfl T.m_answer_of_descent T.F_answer_of_descent.kp T.b_answer_of_descent .nil pass0 (pa_cons (pv 0) (pa_cons (pv 1) (pa_cons (pv 2) pa_nil)))))) pss_nil) (pss_one (ps_ret (pe_call (ok_answer_the_rest T) (hr.mono (by decide)) rfl T.m_answer_the_rest T.F_answer_the_rest.kp T.b_answer_the_rest .nil pass0 (pa_cons (pv 0) (pa_cons (pv 1) (pa_cons (pv 2) pa_nil)))))))))), ?_⟩
    have ok' : (∀ k t, x ≠ .start k t) → DeskOk d := fun h => ok.elim id fun ⟨k, t, e⟩ => absurd e (h k t)
    rcases enc_grp he with ⟨h0, j, t, hx⟩ | ⟨h1, h2, c, hx⟩ | ⟨h1, h2, c, ca, hx⟩ | ⟨h1, h2, c, ca, hx⟩ | ⟨h1, c, hx⟩
    · subst h0 hx
      obtain ⟨_, rfl⟩ := List.cons.inj he
      wide_line with T using hg
      exact ⟨A, d, j, t, rfl, D, k⟩
    · have n0 : ¬ num = 0 := by omega
      wide_line with T using (n0, h2)
      exact ⟨A, d, x, num, args, g, rfl, c, he, hg, D, ok' hx, k⟩
    · have n0 : ¬ num = 0 := by omega
      have n1 : ¬ num ≤ 7 := by omega
      wide_line with T using (n0, n1, h2)
      exact ⟨A.r, A.le, A.lu, A.c, d.now, x, num, args, g, rfl, c, he, hg, D.rec_, (ok' hx).now, k.asks D ca⟩
    · have n0 : ¬ num = 0 := by omega
      have n1 : ¬ num ≤ 7 := by omega
      have n2 : ¬ num ≤ 12 := by omega
      wide_line with T using (n0, n1, n2, h2)
      exact ⟨A.r, A.le, A.lu, A.c, d.now, x, num, args, g, rfl, c, he, hg, D.rec_, (ok' hx).now, k.asks D ca⟩
    · have n0 : ¬ num = 0 := by omega
      have n1 : ¬ num ≤ 7 := by omega
      have n2 : ¬ num ≤ 12 := by omega
      have n3 : ¬ num ≤ 16 := by omega
      wide_line with T using (n0, n1, n2, n3)
      exact ⟨A, d, x, num, args, g, rfl, c, he, hg, D, ok' hx, k⟩
theorem SqL_ext {H H' : Hp} {a : Addr} {xs : List V} (h : SqL K H a xs) (x : Ext H H') : SqL K H' a xs := by
  rcases h with (h | ⟨o, h⟩) | h
  · exact .inl (.inl (x _ _ h))
  · exact .inl (.inr ⟨o, x _ _ h⟩)
  · exact .inr h
theorem cut_args (pre args post : List Int) (num : Int) : cutV ((pre ++ (num :: args ++ post)).map V.int) (some ((pre.length : Int) + 1)) (some ((pre.length : Int) + 1 + args.length)) = args.map V.int := by
  unfold cutV
  rw [show (pre.length : Int) + 1 = ((pre.length + 1 : Nat) : Int) by omega, show ((pre.length + 1 : Nat) : Int) + (args.length : Int) = ((pre.length + 1 + args.length : Nat) : Int) by omega, HT.sIx_nat, HT.sIx_nat]
  have hl : ((pre ++ (num :: args ++ post)).map V.int).length = pre.length + 1 + args.length + post.length := by
    simp
    omega
  have e : (pre ++ (num :: args ++ post)).map V.int = ((pre ++ [num]).map V.int) ++ (args.map V.int ++ post.map V.int) := by simp
  rw [hl, Nat.min_eq_left (by omega), Nat.min_eq_left (by omega), e, List.drop_left' (by simp), List.take_left' (by simp)]
def sizesL : List V := [V.int 2, V.int 2, V.int 2, V.int 2, V.int 2, V.int 4, V.int 3, V.int 2, V.int 1, V.int 1, V.int 2, V.int 1, V.int 0, V.int 1, V.int 1, V.int 1, V.int 2, V.int 1, V.int 1, V.int 3, V.int 0, V.int 0, V.int 0]
theorem enc_size (x : Call) : ∃ num args, enc x = num :: args ∧ atI sizesL num = some (.int ((args.length : Nat) : Int)) := by
  cases x <;> exact ⟨_, _, rfl, rfl⟩
theorem told_few (d : Desk) (x : Call) : (Km484Neutral.told (Km484.act d x).2).length ≤ 5 := by
  have q : (Km484.act d x).2.out.length ≤ 4 := by
    cases x <;> simp only [Km484.act] <;> (repeat' split) <;> simp [Km484.only]
  unfold Km484Neutral.told Km484Neutral.nums
  rw [List.length_cons, List.length_map]
  omega
structure AnAt (n : Nm) (H0 : Hp) (ns : List Int) (xs rest : List Call) (s : Option Desk) (A : Pl) (tl : Addr) (pre out : List Int) (H' : Hp) : Prop where
  dsk : DeskAt n H' A (desk s)
  ok : okS s
  may : mayC s rest
  cal : ∀ x ∈ rest, Km484Neutral.callOf [enc x] = some x
  tlA : tl ∉ A.foot
  lst : H' tl = some (.lst (out.map V.int))
  run : out ++ runC s rest = runC none xs
  few : out.length + 6 * rest.length ≤ 6000
  pos : ns = pre ++ rest.flatMap enc
  ext : Ext H0 H'
  new : ∀ y ∈ tl :: A.foot, H0 y = none
def AnI (n : Nm) (H0 : Hp) (a : Addr) (ns : List Int) (xs : List Call) (σ : L2.St) (H' : Hp) : Prop :=
  ∃ (rest : List Call) (s : Option Desk) (A : Pl) (tl : Addr) (pre out : List Int) (y1 y2 y3 : Option V), σ = [some (.ref a), some (.ref A.r), some (.ref tl), some (.int (pre.length : Nat)), y1, y2, y3] ∧ AnAt n H0 ns xs rest s A tl pre out H'
def anM (ns : List Int) (σ : L2.St) (_ : Hp) : Nat := match σ with | [_, _, _, some (.int p), _, _, _] => ns.length - p.toNat | _ => 0
/-- one call answered: the list told grows -/
theorem AnAt.step {H0 H' H2 : Hp} {ns : List Int} {xs rest : List Call} {x : Call} {s : Option Desk} {A A2 : Pl} {tl g p : Addr} {pre out : List Int} {gl : HO} (I : AnAt n H0 ns xs (x :: rest) s A tl pre out H') (hg : H' g = none) (hA : A2.r = A.r) (f : Fr A.foot (upd H' g gl) A2.foot H2)
    (D : DeskAt n H2 A2 (Km484.act (desk s) x).1) (hp : upd H' g gl p = none) (hl : H2 p = some (.lst ((Km484Neutral.told (Km484.act (desk s) x).2).map V.int))) :
    H2 tl = some (.lst (out.map V.int)) ∧ p ≠ tl ∧ AnAt n H0 ns xs rest (stepC s x).1 A2 tl (pre ++ enc x) (out ++ [((Km484Neutral.told (Km484.act (desk s) x).2).length : Int)] ++ Km484Neutral.told (Km484.act (desk s) x).2)
      (upd H2 tl (.lst ((out ++ [((Km484Neutral.told (Km484.act (desk s) x).2).length : Int)] ++ Km484Neutral.told (Km484.act (desk s) x).2).map V.int))) := by
  have X : Ext H' (upd H' g gl) := .new hg
  have tl1 := X _ _ I.lst
  have tl2 := f.old _ _ tl1 I.tlA
  have ptl : p ≠ tl := (ne_of_none tl1 hp).symm
  obtain ⟨m1, m2⟩ := I.may
  obtain ⟨s1, s2, s3, s4⟩ := step_desk (I.cal x List.mem_cons_self) m1
  have tA2 : tl ∉ A2.foot := fun z => by
    rcases f.new tl z with z | z
    · exact I.tlA z
    · rw [tl1] at z; cases z
  have tf := told_few (desk s) x
  refine ⟨tl2, ptl, ⟨?_, s4 I.ok, m2, fun y hy => I.cal y (List.mem_cons_of_mem _ hy), tA2, upd_same, ?_, ?_, ?_, fun b o e => ?_, fun y hy => ?_⟩⟩
  · rw [s2]
    exact D.mono fun y hy o e => by
      rw [upd_ne (fun z : y = tl => tA2 (z ▸ hy))]
      exact e
  · rw [← I.run]
    show _ = out ++ (((stepC s x).2.length : Int) :: ((stepC s x).2 ++ runC (stepC s x).1 rest))
    rw [s1]
    simp
  · have := I.few
    rw [List.length_cons] at this
    rw [List.length_append, List.length_append, List.length_singleton]
    omega
  · rw [I.pos, List.flatMap_cons, List.append_assoc]
  · have nb : b ≠ tl := fun z => by
      have q := I.new tl List.mem_cons_self
      rw [z, q] at e; cases e
    have nA : b ∉ A.foot := fun z => by
      have q := I.new b (List.mem_cons_of_mem _ z)
      rw [q] at e; cases e
    rw [upd_ne nb]
    exact f.old b o (X _ _ (I.ext b o e)) nA
  · rcases List.mem_cons.mp hy with z | z
    · rw [z]; exact I.new tl List.mem_cons_self
    · rcases f.new y z with z | z
      · exact I.new y (List.mem_cons_of_mem _ z)
      · exact I.ext.none (X.none z)
def sp_answers (K : PySem.W.Frag) : Sp := fun vs H Q _ => ∃ (a : Addr) (ns : List Int), vs = [.ref a] ∧ SqL K H a (ns.map V.int) ∧ PyKm484.answers_asked ns = true ∧ ∀ (H' : Hp) (p : Addr), H' p = some (.lst ((PyKm484.answers ns).map V.int)) → Q (.ref p) H'
theorem ok_answers (T : Txt n K mg) : FnOk P w K mg base CX0 8 n.f_answers n.d_answers ["calls"] (sp_answers K) := by
  refine T.F_answers.ok sc_answers (fun vs H Q E h => ?_) (fun cdv A outer s H vs Q E hr h => ?_)
  · obtain ⟨a, ns, rfl, _⟩ := h
    rfl
  · obtain ⟨a, ns, rfl, hsq, hask, k⟩ := h
    refine ⟨_, (pss_cons (ps_set (i := 1) sc_answers.nd rfl (by first | exact Or.inl rfl | exact Or.inr rfl) (pe_make0 T.mk_Record (ok_Record_init T) (hr.mono (by decide)) rfl T.m_Record T.b_Record_init .nil pass0)) (pss_cons (ps_set (i := 2) sc_answers.nd rfl (by first | exact Or.inl rfl | exact Or.inr rfl) (pe_lst pa_nil)) (pss_cons (ps_set (i := 3) sc_answers.nd rfl (by first | exact Or.inl rfl | exact Or.inr rfl) pe_int) (pss_cons (ps_while PassesOwn.never (pt_cmpR op_lt (pv 3) (pe_callB call_len_seq (by rfl) T.no_len (by decide +kernel) (pa_cons (pv 0) pa_nil)) (nomark _)) (pss_cons (ps_set (i := 4) sc_answers.nd rfl (by first | exact Or.inl rfl | exact Or.inr rfl) (pe_ix ix_list (pv 0) (pv 3) (by intro _ _; rfl))) (pss_cons (ps_set (i := 5) sc_answers.nd rfl (by first | exact Or.inl rfl | exact Or.inr rfl) (pe_op op_add (pe_op op_add (pv 3) pe_int) (pe_ix ix_tup (pe_glob (v := .ref n.t_SIZES) rfl T.g_SIZES rfl) (pv 4) (by intro _ _; rfl)))) (pss_cons (ps_set (i := 6) sc_answers.nd rfl (by first | exact Or.inl rfl | exact Or.inr rfl) (pe_call (ok_answer_call T) (hr.mono (by decide)) rfl T.m_answer_call T.F_answer_call.kp T.b_answer_call .nil pass0 (pa_cons (pv 1) (pa_cons (pv 4) (pa_cons (pe_slice sl_list (pv 0) (po_some (pe_op op_add (pv 3) pe_int)) (po_some (pv 5))) pa_nil))))) (pss_cons (ps_expr (pe_lm PySem.F.slot_list_append PySem.F.type_list_append mt_append (pv 2) (pa_cons (pe_callB len_lst (by rfl) T.no_len (by decide +kernel) (pa_cons (pv 6) pa_nil)) pa_nil))) (pss_cons (ps_expr (pe_lm PySem.F.slot_list_extend PySem.F.type_list_extend mt_extend (pv 2) (pa_cons (pv 6) pa_nil))) (pss_one (ps_set (i := 3) sc_answers.nd rfl (by first | exact Or.inl rfl | exact Or.inr rfl) (pv 5))))))))) (pss_one (ps_ret (pv 2))))))), ?_⟩
    obtain ⟨xs, en, xl, _, hcal, hmay, hans⟩ := view hask
    rw [hans] at k
    wide_line with T
    intro r dr hr0 hd0 hne
    refine ⟨r, dr, rfl, upd_same, fun H1 A hA D f => ⟨rfl, ?_⟩⟩
    intro tl htl
    have X0 : Ext H (upd (upd H dr (.own r)) r (.ins n.c_Record dr [])) := fun b o e => by
      rw [upd_ne (ne_of_none e hr0), upd_ne (ne_of_none e hd0)]
      exact e
    have X1 : Ext H H1 := fun b o e => f.old b o (X0 b o e) fun z => by
      rw [List.mem_singleton.mp z, hr0] at e; cases e
    refine while_at (AnI n H a ns xs) (anM ns) ⟨xs, none, A, tl, [], [], none, none, none, ?_, ?_⟩ ?_
    · rw [hA]
      rfl
    · refine ⟨D.ext (.new htl), fun d e => (by cases e), hmay, hcal, D.fresh htl, upd_same, rfl, by simp; omega, en, X1.trans (.new htl), fun y hy => ?_⟩
      rcases List.mem_cons.mp hy with z | z
      · rw [z]; exact X1.none htl
      · rcases f.new y z with z | z
        · rw [List.mem_singleton.mp z]; exact hr0
        · exact X0.none z
    · rintro σ H' ⟨rest, s, A, tl, pre, out, y1, y2, y3, rfl, I⟩
      have hsq' := SqL_ext hsq I.ext
      wide_line with T
      refine ⟨_, .inl hsq', ?_⟩
      cases rest with
      | nil =>
        have e : ns = pre := by rw [I.pos]; exact List.append_nil _
        rw [if_neg (by rw [List.length_map, e]; omega)]
        have run : out ++ [] = runC none xs := I.run
        rw [List.append_nil] at run
        exact k H' tl (by rw [← run]; exact I.lst)
      | cons x rest =>
        obtain ⟨num, args, ex, hsz⟩ := enc_size x
        have en2 : ns = pre ++ (num :: args ++ rest.flatMap enc) := by rw [I.pos, List.flatMap_cons, ex]
        have hnum : (ns.map V.int)[pre.length]? = some (.int num) := by
          rw [en2, List.map_append, List.getElem?_append_right (by simp)]
          simp
        rw [if_pos (by rw [List.length_map, en2]; simp; omega)]
        refine WB.of ?_
        wide_line with T using (rIxL, rSlL)
        have hcut : cutV (ns.map V.int) (some ((pre.length : Int) + 1)) (some ((pre.length : Int) + 1 + ((args.length : Nat) : Int))) = args.map V.int := by rw [en2]; exact cut_args _ _ _ _
        refine ⟨_, hsq', _, hnum, _, num, rfl, T.gt_SIZES H', _, hsz, _, rfl, _, hsq', fun g hg => ?_⟩
        rw [hcut]
        have sd := step_desk (I.cal x List.mem_cons_self) I.may.1
        refine ⟨A, desk s, x, num, args, g, rfl, ex, upd_same, I.dsk.ext (.new hg), ?_, fun H2 A2 p hA2 f2 D2 hp hpA hl => ?_⟩
        · rcases sd.2.2.1 with ⟨d, e⟩ | z
          · left
            rw [e]
            exact I.ok d e
          · right
            exact z
        · obtain ⟨t1, t2, I2⟩ := I.step hg hA2 f2 D2 hp hl
          have few := I.few
          rw [List.length_cons] at few
          have tf := told_few (desk s) x
          have sl : sizeLine = 16777216 := rfl
          have hp2 := fun o => (upd_ne (H := H2) (o := o) t2).trans hl
          have epl : ((pre ++ enc x).length : Int) = (pre.length : Int) + 1 + ((args.length : Nat) : Int) := by
            rw [ex]
            simp
            omega
          have nl : ns.length = pre.length + 1 + args.length + (rest.flatMap enc).length := by
            rw [en2]
            simp
            omega
          refine ⟨⟨_, t1⟩, p, rfl, _, hl, _, t1, ?_, p, rfl, _, hp2 _, ?_, ⟨rest, (stepC s x).1, A2, tl, pre ++ enc x, out ++ [((Km484Neutral.told (Km484.act (desk s) x).2).length : Int)] ++ Km484Neutral.told (Km484.act (desk s) x).2, some (.int num), some (.int ((pre.length : Int) + 1 + ((args.length : Nat) : Int))), some (.ref p), ?_, ?_⟩, ?_⟩
          · rw [List.length_map]
            omega
          · simp only [List.length_append, List.length_map, List.length_cons, List.length_nil]
            omega
          · rw [hA2, epl]
          · rw [List.length_map]
            have eh : (out ++ [((Km484Neutral.told (Km484.act (desk s) x).2).length : Int)] ++ Km484Neutral.told (Km484.act (desk s) x).2).map V.int = out.map V.int ++ [V.int ((Km484Neutral.told (Km484.act (desk s) x).2).length : Int)] ++ (Km484Neutral.told (Km484.act (desk s) x).2).map V.int := by
              rw [List.map_append, List.map_append]
              rfl
            rw [← eh]
            exact I2
          · simp only [anM]
            omega
end Sh
set_option Elab.async false
set_option linter.all false
set_option maxRecDepth 100000
namespace Sh
open PySem PySem.W
def qv : Program := { PySem.Challenge.pw_stateheirs_s01_answers with main := { PySem.Challenge.pw_stateheirs_s01_answers.main with body := [top 1, top 2, top 3, top 4, top 5, top 6, top 7, top 8, top 9, top 11, top 12, top 13, top 14, top 15, top 16, top 17, top 18, top 19, top 20, top 21, top 22, top 23, top 24, top 25, top 26, top 28, top 29, top 30, top 31, top 32, top 33, top 34, top 35, top 37, top 38, top 39, top 40, top 41, top 43, top 44, top 45, top 46, top 47, top 48, top 49, top 50, top 51, top 53, top 54, top 56, top 57, top 58, top 59, top 60, top 61, top 62, top 63, top 64, top 65, top 66] } }
noncomputable def o3 (P : Params) : Obj := { cls := Value.type "dict", data := Data.dict #[{ hash := PyData.keyHash P "__name__", key := Value.str "__name__" 165, val := Value.str "stateheirs.states" 758 }, { hash := PyData.keyHash P "__doc__", key := Value.str "__doc__" 166, val := Value.none }, { hash := PyData.keyHash P "__package__", key := Value.str "__package__" 167, val := Value.none }, { hash := PyData.keyHash P "__loader__", key := Value.str "__loader__" 168, val := Value.builtin "__main__.__loader__#opaque" }, { hash := PyData.keyHash P "__spec__", key := Value.str "__spec__" 169, val := Value.none }, { hash := PyData.keyHash P "__annotations__", key := Value.str "__annotations__" 170, val := Value.ref 6 }, { hash := PyData.keyHash P "__builtins__", key := Value.str "__builtins__" 171, val := Value.ref 4 }, { hash := PyData.keyHash P "__file__", key := Value.str "__file__" 173, val := Value.str "/claim/cut.py" 172 }, { hash := PyData.keyHash P "__cached__", key := Value.str "__cached__" 174, val := Value.none }, { hash := PyData.keyHash P "MOST_AT_START", key := Value.str "MOST_AT_START" 190, val := Value.int 4 189 }, { hash := PyData.keyHash P "MOST_TREATIES", key := Value.str "MOST_TREATIES" 192, val := Value.int 8 191 }, { hash := PyData.keyHash P "MOST_UNITS", key := Value.str "MOST_UNITS" 194, val := Value.int 1000000 193 }, { hash := PyData.keyHash P "MOST_OWED", key := Value.str "MOST_OWED" 196, val := Value.int 10000000 195 }, { hash := PyData.keyHash P "MOST_PARTS", key := Value.str "MOST_PARTS" 198, val := Value.int 9 197 }, { hash := PyData.keyHash P "wrong_start", key := Value.str "wrong_start" 206, val := Value.ref 21 }, { hash := PyData.keyHash P "wrong_units", key := Value.str "wrong_units" 213, val := Value.ref 28 }, { hash := PyData.keyHash P "wrong_mode", key := Value.str "wrong_mode" 220, val := Value.ref 35 }, { hash := PyData.keyHash P "wrong_parts", key := Value.str "wrong_parts" 228, val := Value.ref 42 }, { hash := PyData.keyHash P "MOST_STATES", key := Value.str "MOST_STATES" 232, val := Value.int 12 231 }, { hash := PyData.keyHash P "MOST_TAKEN_BACK", key := Value.str "MOST_TAKEN_BACK" 234, val := Value.int 20 233 }, { hash := PyData.keyHash P "is_in", key := Value.str "is_in" 242, val := Value.ref 49 }, { hash := PyData.keyHash P "with_one", key := Value.str "with_one" 250, val := Value.ref 56 }, { hash := PyData.keyHash P "without_one", key := Value.str "without_one" 258, val := Value.ref 63 }, { hash := PyData.keyHash P "how_many", key := Value.str "how_many" 266, val := Value.ref 70 }, { hash := PyData.keyHash P "kept_share", key := Value.str "kept_share" 275, val := Value.ref 77 }, { hash := PyData.keyHash P "State", key := Value.str "State" 334, val := Value.ref 115 }, { hash := PyData.keyHash P "Record", key := Value.str "Record" 511, val := Value.ref 249 }, { hash := PyData.keyHash P "THERE_IS_NONE", key := Value.str "THERE_IS_NONE" 514, val := Value.int (-2) 513 }, { hash := PyData.keyHash P "NOT_SO", key := Value.str "NOT_SO" 517, val := Value.int (-6) 516 }, { hash := PyData.keyHash P "OWES_LESS", key := Value.str "OWES_LESS" 520, val := Value.int (-12) 519 }, { hash := PyData.keyHash P "BOUND_ALREADY", key := Value.str "BOUND_ALREADY" 523, val := Value.int (-17) 522 }, { hash := PyData.keyHash P "WRONG_NUMBER", key := Value.str "WRONG_NUMBER" 526, val := Value.int (-22) 525 }, { hash := PyData.keyHash P "NO_MORE_STATES", key := Value.str "NO_MORE_STATES" 529, val := Value.int (-28) 528 }, { hash := PyData.keyHash P "TOO_MUCH_OWED", key := Value.str "TOO_MUCH_OWED" 532, val := Value.int (-75) 531 }, { hash := PyData.keyHash P "su_start", key := Value.str "su_start" 543, val := Value.ref 260 }, { hash := PyData.keyHash P "su_sign", key := Value.str "su_sign" 553, val := Value.ref 267 }, { hash := PyData.keyHash P "su_leave", key := Value.str "su_leave" 563, val := Value.ref 274 }, { hash := PyData.keyHash P "su_owe", key := Value.str "su_owe" 573, val := Value.ref 281 }, { hash := PyData.keyHash P "su_pay", key := Value.str "su_pay" 583, val := Value.ref 288 }, { hash := PyData.keyHash P "su_part", key := Value.str "su_part" 594, val := Value.ref 295 }, { hash := PyData.keyHash P "su_join", key := Value.str "su_join" 604, val := Value.ref 302 }, { hash := PyData.keyHash P "su_follow", key := Value.str "su_follow" 614, val := Value.ref 309 }, { hash := PyData.keyHash P "one_more", key := Value.str "one_more" 623, val := Value.ref 316 }, { hash := PyData.keyHash P "su_from", key := Value.str "su_from" 632, val := Value.ref 323 }, { hash := PyData.keyHash P "su_line", key := Value.str "su_line" 641, val := Value.ref 330 }, { hash := PyData.keyHash P "su_heirs", key := Value.str "su_heirs" 650, val := Value.ref 337 }, { hash := PyData.keyHash P "su_kin", key := Value.str "su_kin" 659, val := Value.ref 344 }, { hash := PyData.keyHash P "su_treaties", key := Value.str "su_treaties" 670, val := Value.ref 351 }, { hash := PyData.keyHash P "su_bound", key := Value.str "su_bound" 679, val := Value.ref 358 }, { hash := PyData.keyHash P "su_common", key := Value.str "su_common" 689, val := Value.ref 365 }, { hash := PyData.keyHash P "su_debt", key := Value.str "su_debt" 697, val := Value.ref 372 }, { hash := PyData.keyHash P "su_total", key := Value.str "su_total" 704, val := Value.ref 379 }, { hash := PyData.keyHash P "su_whole", key := Value.str "su_whole" 712, val := Value.ref 386 }, { hash := PyData.keyHash P "su_could", key := Value.str "su_could" 722, val := Value.ref 393 }, { hash := PyData.keyHash P "su_would", key := Value.str "su_would" 734, val := Value.ref 400 }, { hash := PyData.keyHash P "su_state", key := Value.str "su_state" 741, val := Value.ref 407 }, { hash := PyData.keyHash P "su_back", key := Value.str "su_back" 750, val := Value.ref 414 }, { hash := PyData.keyHash P "su_again", key := Value.str "su_again" 757, val := Value.ref 421 }, { hash := PyData.keyHash P "SIZES", key := Value.str "SIZES" 783, val := Value.ref 422 }, { hash := PyData.keyHash P "LAST_CHANGE", key := Value.str "LAST_CHANGE" 785, val := Value.int 7 784 }, { hash := PyData.keyHash P "LAST_OF_TREATIES_AND_DEBTS", key := Value.str "LAST_OF_TREATIES_AND_DEBTS" 787, val := Value.int 12 786 }, { hash := PyData.keyHash P "LAST_OF_DESCENT", key := Value.str "LAST_OF_DESCENT" 789, val := Value.int 16 788 }, { hash := PyData.keyHash P "make_change", key := Value.str "make_change" 798, val := Value.ref 429 }, { hash := PyData.keyHash P "answer_change", key := Value.str "answer_change" 809, val := Value.ref 436 }, { hash := PyData.keyHash P "answer_of_treaties_and_debts", key := Value.str "answer_of_treaties_and_debts" 818, val := Value.ref 443 }, { hash := PyData.keyHash P "answer_of_descent", key := Value.str "answer_of_descent" 827, val := Value.ref 450 }, { hash := PyData.keyHash P "answer_the_rest", key := Value.str "answer_the_rest" 836, val := Value.ref 457 }, { hash := PyData.keyHash P "answer_call", key := Value.str "answer_call" 845, val := Value.ref 464 }, { hash := PyData.keyHash P "answers", key := Value.str "answers" 858, val := Value.ref 471 }] 69 }
noncomputable def o11 (P : Params) : Obj := { cls := Value.type "tuple", data := Data.seq #[] }
noncomputable def o12 (P : Params) : Obj := { cls := Value.none, data := Data.fields #[Value.int 7 0, Value.int 0 0, Value.ref 20, Value.int 9 0, Value.int 0 0, Value.ref 27, Value.int 11 0, Value.int 0 0, Value.ref 34, Value.int 13 0, Value.int 0 0, Value.ref 41, Value.int 18 0, Value.int 0 0, Value.ref 48, Value.int 20 0, Value.int 0 0, Value.ref 55, Value.int 22 0, Value.int 0 0, Value.ref 62, Value.int 24 0, Value.int 0 0, Value.ref 69, Value.int 30 0, Value.int 0 0, Value.ref 76, Value.int 32 0, Value.int 0 0, Value.ref 83, Value.int 54 0, Value.int 0 0, Value.ref 125, Value.int 155 0, Value.int 0 0, Value.ref 259, Value.int 160 0, Value.int 0 0, Value.ref 266, Value.int 168 0, Value.int 0 0, Value.ref 273, Value.int 176 0, Value.int 0 0, Value.ref 280, Value.int 186 0, Value.int 0 0, Value.ref 287, Value.int 196 0, Value.int 0 0, Value.ref 294, Value.int 204 0, Value.int 0 0, Value.ref 301, Value.int 211 0, Value.int 0 0, Value.ref 308, Value.int 222 0, Value.int 0 0, Value.ref 315, Value.int 224 0, Value.int 0 0, Value.ref 322, Value.int 229 0, Value.int 0 0, Value.ref 329, Value.int 234 0, Value.int 0 0, Value.ref 336, Value.int 239 0, Value.int 0 0, Value.ref 343, Value.int 244 0, Value.int 0 0, Value.ref 350, Value.int 249 0, Value.int 0 0, Value.ref 357, Value.int 254 0, Value.int 0 0, Value.ref 364, Value.int 261 0, Value.int 0 0, Value.ref 371, Value.int 265 0, Value.int 0 0, Value.ref 378, Value.int 267 0, Value.int 0 0, Value.ref 385, Value.int 271 0, Value.int 0 0, Value.ref 392, Value.int 277 0, Value.int 0 0, Value.ref 399, Value.int 285 0, Value.int 0 0, Value.ref 406, Value.int 288 0, Value.int 0 0, Value.ref 413, Value.int 293 0, Value.int 0 0, Value.ref 420, Value.int 303 0, Value.int 0 0, Value.ref 428, Value.int 317 0, Value.int 0 0, Value.ref 435, Value.int 323 0, Value.int 0 0, Value.ref 442, Value.int 333 0, Value.int 0 0, Value.ref 449, Value.int 341 0, Value.int 0 0, Value.ref 456, Value.int 353 0, Value.int 0 0, Value.ref 463, Value.int 363 0, Value.int 0 0, Value.ref 470] }
noncomputable def o13 (P : Params) : Obj := { cls := Value.type "code", data := Data.fields #[Value.str "<module>" 182, Value.str "<module>" 183, Value.str "/claim/cut.py" 184, Value.int 1 0, Value.int 0 0, Value.int 0 0, Value.int 0 0, Value.int 0 0, Value.ref 11, Value.bool Bool.false, Value.int 181 0, Value.ref 12, Value.none, Value.none, Value.none, Value.none, Value.int 185 0, Value.int 1 0, Value.str "/claim/cut.py" 186] }
noncomputable def o14 (P : Params) : Obj := { cls := Value.type "frame", slots := #[Option.some (Value.ref 13), Option.some (Value.ref 3), Option.some (Value.ref 3), Option.none, Option.some (Value.str "__main__" 164), Option.none, Option.some (Value.ref 0)] }
noncomputable def o15 (P : Params) : Obj := { cls := Value.type "tuple", data := Data.seq #[] }
noncomputable def o16 (P : Params) : Obj := { cls := Value.none, data := Data.fields #[] }
noncomputable def o17 (P : Params) : Obj := { cls := Value.type "tuple", data := Data.seq #[Value.str "n" 202, Value.str "t" 203] }
noncomputable def o18 (P : Params) : Obj := { cls := Value.type "tuple", data := Data.seq #[] }
noncomputable def o19 (P : Params) : Obj := { cls := Value.none, data := Data.func { name := "wrong_start", qualname := "wrong_start", params := L2.defArgs Sh.s_wrong_start, body := FuncBody.stmts (L2.defBody Sh.s_wrong_start), scope := L2.defScope Sh.s_wrong_start, globals := 0, closure := [], defaults := Value.none, kwdefaults := Value.none } }
noncomputable def o20 (P : Params) : Obj := { cls := Value.type "code", data := Data.fields #[Value.str "wrong_start" 199, Value.str "wrong_start" 200, Value.str "/claim/cut.py" 201, Value.int 7 0, Value.int 2 0, Value.int 0 0, Value.int 0 0, Value.int 3 0, Value.ref 15, Value.bool Bool.true, Value.int 181 0, Value.ref 16, Value.none, Value.ref 17, Value.ref 18, Value.ref 19, Value.int 204 0, Value.int 7 0, Value.str "/claim/cut.py" 205] }
noncomputable def o21 (P : Params) : Obj := { cls := Value.type "function", data := Data.func { name := "wrong_start", qualname := "wrong_start", params := L2.defArgs Sh.s_wrong_start, body := FuncBody.stmts (L2.defBody Sh.s_wrong_start), scope := L2.defScope Sh.s_wrong_start, globals := 3, closure := [], defaults := Value.none, kwdefaults := Value.none, pyModule := Value.str "stateheirs.limits" 187, code := Value.ref 20 } }
noncomputable def o22 (P : Params) : Obj := { cls := Value.type "tuple", data := Data.seq #[] }
noncomputable def o23 (P : Params) : Obj := { cls := Value.none, data := Data.fields #[] }
noncomputable def o24 (P : Params) : Obj := { cls := Value.type "tuple", data := Data.seq #[Value.str "x" 210] }
noncomputable def o25 (P : Params) : Obj := { cls := Value.type "tuple", data := Data.seq #[] }
noncomputable def o26 (P : Params) : Obj := { cls := Value.none, data := Data.func { name := "wrong_units", qualname := "wrong_units", params := L2.defArgs Sh.s_wrong_units, body := FuncBody.stmts (L2.defBody Sh.s_wrong_units), scope := L2.defScope Sh.s_wrong_units, globals := 0, closure := [], defaults := Value.none, kwdefaults := Value.none } }
noncomputable def o27 (P : Params) : Obj := { cls := Value.type "code", data := Data.fields #[Value.str "wrong_units" 207, Value.str "wrong_units" 208, Value.str "/claim/cut.py" 209, Value.int 9 0, Value.int 1 0, Value.int 0 0, Value.int 0 0, Value.int 3 0, Value.ref 22, Value.bool Bool.true, Value.int 181 0, Value.ref 23, Value.none, Value.ref 24, Value.ref 25, Value.ref 26, Value.int 211 0, Value.int 9 0, Value.str "/claim/cut.py" 212] }
noncomputable def o28 (P : Params) : Obj := { cls := Value.type "function", data := Data.func { name := "wrong_units", qualname := "wrong_units", params := L2.defArgs Sh.s_wrong_units, body := FuncBody.stmts (L2.defBody Sh.s_wrong_units), scope := L2.defScope Sh.s_wrong_units, globals := 3, closure := [], defaults := Value.none, kwdefaults := Value.none, pyModule := Value.str "stateheirs.limits" 187, code := Value.ref 27 } }
noncomputable def o29 (P : Params) : Obj := { cls := Value.type "tuple", data := Data.seq #[] }
noncomputable def o30 (P : Params) : Obj := { cls := Value.none, data := Data.fields #[] }
noncomputable def o31 (P : Params) : Obj := { cls := Value.type "tuple", data := Data.seq #[Value.str "mode" 217] }
noncomputable def o32 (P : Params) : Obj := { cls := Value.type "tuple", data := Data.seq #[] }
noncomputable def o33 (P : Params) : Obj := { cls := Value.none, data := Data.func { name := "wrong_mode", qualname := "wrong_mode", params := L2.defArgs Sh.s_wrong_mode, body := FuncBody.stmts (L2.defBody Sh.s_wrong_mode), scope := L2.defScope Sh.s_wrong_mode, globals := 0, closure := [], defaults := Value.none, kwdefaults := Value.none } }
noncomputable def o34 (P : Params) : Obj := { cls := Value.type "code", data := Data.fields #[Value.str "wrong_mode" 214, Value.str "wrong_mode" 215, Value.str "/claim/cut.py" 216, Value.int 11 0, Value.int 1 0, Value.int 0 0, Value.int 0 0, Value.int 3 0, Value.ref 29, Value.bool Bool.true, Value.int 181 0, Value.ref 30, Value.none, Value.ref 31, Value.ref 32, Value.ref 33, Value.int 218 0, Value.int 11 0, Value.str "/claim/cut.py" 219] }
noncomputable def o35 (P : Params) : Obj := { cls := Value.type "function", data := Data.func { name := "wrong_mode", qualname := "wrong_mode", params := L2.defArgs Sh.s_wrong_mode, body := FuncBody.stmts (L2.defBody Sh.s_wrong_mode), scope := L2.defScope Sh.s_wrong_mode, globals := 3, closure := [], defaults := Value.none, kwdefaults := Value.none, pyModule := Value.str "stateheirs.limits" 187, code := Value.ref 34 } }
noncomputable def o36 (P : Params) : Obj := { cls := Value.type "tuple", data := Data.seq #[] }
noncomputable def o37 (P : Params) : Obj := { cls := Value.none, data := Data.fields #[] }
noncomputable def o38 (P : Params) : Obj := { cls := Value.type "tuple", data := Data.seq #[Value.str "p" 224, Value.str "q" 225] }
noncomputable def o39 (P : Params) : Obj := { cls := Value.type "tuple", data := Data.seq #[] }
noncomputable def o40 (P : Params) : Obj := { cls := Value.none, data := Data.func { name := "wrong_parts", qualname := "wrong_parts", params := L2.defArgs Sh.s_wrong_parts, body := FuncBody.stmts (L2.defBody Sh.s_wrong_parts), scope := L2.defScope Sh.s_wrong_parts, globals := 0, closure := [], defaults := Value.none, kwdefaults := Value.none } }
noncomputable def o41 (P : Params) : Obj := { cls := Value.type "code", data := Data.fields #[Value.str "wrong_parts" 221, Value.str "wrong_parts" 222, Value.str "/claim/cut.py" 223, Value.int 13 0, Value.int 2 0, Value.int 0 0, Value.int 0 0, Value.int 3 0, Value.ref 36, Value.bool Bool.true, Value.int 181 0, Value.ref 37, Value.none, Value.ref 38, Value.ref 39, Value.ref 40, Value.int 226 0, Value.int 13 0, Value.str "/claim/cut.py" 227] }
noncomputable def o42 (P : Params) : Obj := { cls := Value.type "function", data := Data.func { name := "wrong_parts", qualname := "wrong_parts", params := L2.defArgs Sh.s_wrong_parts, body := FuncBody.stmts (L2.defBody Sh.s_wrong_parts), scope := L2.defScope Sh.s_wrong_parts, globals := 3, closure := [], defaults := Value.none, kwdefaults := Value.none, pyModule := Value.str "stateheirs.limits" 187, code := Value.ref 41 } }
noncomputable def o43 (P : Params) : Obj := { cls := Value.type "tuple", data := Data.seq #[] }
noncomputable def o44 (P : Params) : Obj := { cls := Value.none, data := Data.fields #[] }
noncomputable def o45 (P : Params) : Obj := { cls := Value.type "tuple", data := Data.seq #[Value.str "one" 238, Value.str "many" 239] }
noncomputable def o46 (P : Params) : Obj := { cls := Value.type "tuple", data := Data.seq #[] }
noncomputable def o47 (P : Params) : Obj := { cls := Value.none, data := Data.func { name := "is_in", qualname := "is_in", params := L2.defArgs Sh.s_is_in, body := FuncBody.stmts (L2.defBody Sh.s_is_in), scope := L2.defScope Sh.s_is_in, globals := 0, closure := [], defaults := Value.none, kwdefaults := Value.none } }
noncomputable def o48 (P : Params) : Obj := { cls := Value.type "code", data := Data.fields #[Value.str "is_in" 235, Value.str "is_in" 236, Value.str "/claim/cut.py" 237, Value.int 18 0, Value.int 2 0, Value.int 0 0, Value.int 0 0, Value.int 3 0, Value.ref 43, Value.bool Bool.true, Value.int 181 0, Value.ref 44, Value.none, Value.ref 45, Value.ref 46, Value.ref 47, Value.int 240 0, Value.int 18 0, Value.str "/claim/cut.py" 241] }
noncomputable def o49 (P : Params) : Obj := { cls := Value.type "function", data := Data.func { name := "is_in", qualname := "is_in", params := L2.defArgs Sh.s_is_in, body := FuncBody.stmts (L2.defBody Sh.s_is_in), scope := L2.defScope Sh.s_is_in, globals := 3, closure := [], defaults := Value.none, kwdefaults := Value.none, pyModule := Value.str "stateheirs.record" 229, code := Value.ref 48 } }
noncomputable def o50 (P : Params) : Obj := { cls := Value.type "tuple", data := Data.seq #[] }
noncomputable def o51 (P : Params) : Obj := { cls := Value.none, data := Data.fields #[] }
noncomputable def o52 (P : Params) : Obj := { cls := Value.type "tuple", data := Data.seq #[Value.str "one" 246, Value.str "many" 247] }
noncomputable def o53 (P : Params) : Obj := { cls := Value.type "tuple", data := Data.seq #[] }
noncomputable def o54 (P : Params) : Obj := { cls := Value.none, data := Data.func { name := "with_one", qualname := "with_one", params := L2.defArgs Sh.s_with_one, body := FuncBody.stmts (L2.defBody Sh.s_with_one), scope := L2.defScope Sh.s_with_one, globals := 0, closure := [], defaults := Value.none, kwdefaults := Value.none } }
noncomputable def o55 (P : Params) : Obj := { cls := Value.type "code", data := Data.fields #[Value.str "with_one" 243, Value.str "with_one" 244, Value.str "/claim/cut.py" 245, Value.int 20 0, Value.int 2 0, Value.int 0 0, Value.int 0 0, Value.int 3 0, Value.ref 50, Value.bool Bool.true, Value.int 181 0, Value.ref 51, Value.none, Value.ref 52, Value.ref 53, Value.ref 54, Value.int 248 0, Value.int 20 0, Value.str "/claim/cut.py" 249] }
noncomputable def o56 (P : Params) : Obj := { cls := Value.type "function", data := Data.func { name := "with_one", qualname := "with_one", params := L2.defArgs Sh.s_with_one, body := FuncBody.stmts (L2.defBody Sh.s_with_one), scope := L2.defScope Sh.s_with_one, globals := 3, closure := [], defaults := Value.none, kwdefaults := Value.none, pyModule := Value.str "stateheirs.record" 229, code := Value.ref 55 } }
noncomputable def o57 (P : Params) : Obj := { cls := Value.type "tuple", data := Data.seq #[] }
noncomputable def o58 (P : Params) : Obj := { cls := Value.none, data := Data.fields #[] }
noncomputable def o59 (P : Params) : Obj := { cls := Value.type "tuple", data := Data.seq #[Value.str "one" 254, Value.str "many" 255] }
noncomputable def o60 (P : Params) : Obj := { cls := Value.type "tuple", data := Data.seq #[] }
noncomputable def o61 (P : Params) : Obj := { cls := Value.none, data := Data.func { name := "without_one", qualname := "without_one", params := L2.defArgs Sh.s_without_one, body := FuncBody.stmts (L2.defBody Sh.s_without_one), scope := L2.defScope Sh.s_without_one, globals := 0, closure := [], defaults := Value.none, kwdefaults := Value.none } }
noncomputable def o62 (P : Params) : Obj := { cls := Value.type "code", data := Data.fields #[Value.str "without_one" 251, Value.str "without_one" 252, Value.str "/claim/cut.py" 253, Value.int 22 0, Value.int 2 0, Value.int 0 0, Value.int 0 0, Value.int 3 0, Value.ref 57, Value.bool Bool.true, Value.int 181 0, Value.ref 58, Value.none, Value.ref 59, Value.ref 60, Value.ref 61, Value.int 256 0, Value.int 22 0, Value.str "/claim/cut.py" 257] }
noncomputable def o63 (P : Params) : Obj := { cls := Value.type "function", data := Data.func { name := "without_one", qualname := "without_one", params := L2.defArgs Sh.s_without_one, body := FuncBody.stmts (L2.defBody Sh.s_without_one), scope := L2.defScope Sh.s_without_one, globals := 3, closure := [], defaults := Value.none, kwdefaults := Value.none, pyModule := Value.str "stateheirs.record" 229, code := Value.ref 62 } }
noncomputable def o64 (P : Params) : Obj := { cls := Value.type "tuple", data := Data.seq #[] }
noncomputable def o65 (P : Params) : Obj := { cls := Value.none, data := Data.fields #[] }
noncomputable def o66 (P : Params) : Obj := { cls := Value.type "tuple", data := Data.seq #[Value.str "many" 262, Value.str "count" 263] }
noncomputable def o67 (P : Params) : Obj := { cls := Value.type "tuple", data := Data.seq #[] }
noncomputable def o68 (P : Params) : Obj := { cls := Value.none, data := Data.func { name := "how_many", qualname := "how_many", params := L2.defArgs Sh.s_how_many, body := FuncBody.stmts (L2.defBody Sh.s_how_many), scope := L2.defScope Sh.s_how_many, globals := 0, closure := [], defaults := Value.none, kwdefaults := Value.none } }
noncomputable def o69 (P : Params) : Obj := { cls := Value.type "code", data := Data.fields #[Value.str "how_many" 259, Value.str "how_many" 260, Value.str "/claim/cut.py" 261, Value.int 24 0, Value.int 1 0, Value.int 0 0, Value.int 0 0, Value.int 3 0, Value.ref 64, Value.bool Bool.true, Value.int 181 0, Value.ref 65, Value.none, Value.ref 66, Value.ref 67, Value.ref 68, Value.int 264 0, Value.int 24 0, Value.str "/claim/cut.py" 265] }
noncomputable def o70 (P : Params) : Obj := { cls := Value.type "function", data := Data.func { name := "how_many", qualname := "how_many", params := L2.defArgs Sh.s_how_many, body := FuncBody.stmts (L2.defBody Sh.s_how_many), scope := L2.defScope Sh.s_how_many, globals := 3, closure := [], defaults := Value.none, kwdefaults := Value.none, pyModule := Value.str "stateheirs.record" 229, code := Value.ref 69 } }
noncomputable def o71 (P : Params) : Obj := { cls := Value.type "tuple", data := Data.seq #[] }
noncomputable def o72 (P : Params) : Obj := { cls := Value.none, data := Data.fields #[] }
noncomputable def o73 (P : Params) : Obj := { cls := Value.type "tuple", data := Data.seq #[Value.str "owes" 270, Value.str "p" 271, Value.str "q" 272] }
noncomputable def o74 (P : Params) : Obj := { cls := Value.type "tuple", data := Data.seq #[] }
noncomputable def o75 (P : Params) : Obj := { cls := Value.none, data := Data.func { name := "kept_share", qualname := "kept_share", params := L2.defArgs Sh.s_kept_share, body := FuncBody.stmts (L2.defBody Sh.s_kept_share), scope := L2.defScope Sh.s_kept_share, globals := 0, closure := [], defaults := Value.none, kwdefaults := Value.none } }
noncomputable def o76 (P : Params) : Obj := { cls := Value.type "code", data := Data.fields #[Value.str "kept_share" 267, Value.str "kept_share" 268, Value.str "/claim/cut.py" 269, Value.int 30 0, Value.int 3 0, Value.int 0 0, Value.int 0 0, Value.int 3 0, Value.ref 71, Value.bool Bool.true, Value.int 181 0, Value.ref 72, Value.none, Value.ref 73, Value.ref 74, Value.ref 75, Value.int 273 0, Value.int 30 0, Value.str "/claim/cut.py" 274] }
noncomputable def o77 (P : Params) : Obj := { cls := Value.type "function", data := Data.func { name := "kept_share", qualname := "kept_share", params := L2.defArgs Sh.s_kept_share, body := FuncBody.stmts (L2.defBody Sh.s_kept_share), scope := L2.defScope Sh.s_kept_share, globals := 3, closure := [], defaults := Value.none, kwdefaults := Value.none, pyModule := Value.str "stateheirs.record" 229, code := Value.ref 76 } }
noncomputable def o78 (P : Params) : Obj := { cls := Value.type "tuple", data := Data.seq #[] }
noncomputable def o79 (P : Params) : Obj := { cls := Value.type "builtin_function_or_method", data := Data.fields #[Value.builtin "type.__prepare__", Value.type "type"] }
noncomputable def o80 (P : Params) : Obj := { cls := Value.type "dict", data := Data.dict #[{ hash := PyData.keyHash P "__module__", key := Value.str "__module__" 283, val := Value.str "stateheirs.record" 229 }, { hash := PyData.keyHash P "__qualname__", key := Value.str "__qualname__" 285, val := Value.str "State" 284 }, { hash := PyData.keyHash P "__firstlineno__", key := Value.str "__firstlineno__" 287, val := Value.int 32 286 }, { hash := PyData.keyHash P "__init__", key := Value.str "__init__" 298, val := Value.ref 91 }, { hash := PyData.keyHash P "is_there", key := Value.str "is_there" 305, val := Value.ref 98 }, { hash := PyData.keyHash P "vanish_into", key := Value.str "vanish_into" 313, val := Value.ref 105 }, { hash := PyData.keyHash P "copied", key := Value.str "copied" 321, val := Value.ref 112 }, { hash := PyData.keyHash P "__static_attributes__", key := Value.str "__static_attributes__" 327, val := Value.ref 113 }] 8 }
noncomputable def o81 (P : Params) : Obj := { cls := Value.type "tuple", data := Data.seq #[] }
noncomputable def o82 (P : Params) : Obj := { cls := Value.none, data := Data.fields #[Value.int 34 0, Value.int 4 0, Value.ref 90, Value.int 41 0, Value.int 4 0, Value.ref 97, Value.int 44 0, Value.int 4 0, Value.ref 104, Value.int 50 0, Value.int 4 0, Value.ref 111] }
noncomputable def o83 (P : Params) : Obj := { cls := Value.type "code", data := Data.fields #[Value.str "State" 278, Value.str "State" 279, Value.str "/claim/cut.py" 280, Value.int 32 0, Value.int 0 0, Value.int 0 0, Value.int 0 0, Value.int 0 0, Value.ref 81, Value.bool Bool.false, Value.int 181 0, Value.ref 82, Value.none, Value.none, Value.none, Value.none, Value.int 281 0, Value.int 32 0, Value.str "/claim/cut.py" 282] }
noncomputable def o84 (P : Params) : Obj := { cls := Value.type "frame", slots := #[Option.some (Value.ref 83), Option.some (Value.ref 3), Option.some (Value.ref 80), Option.none, Option.some (Value.str "stateheirs.record" 229), Option.none, Option.some (Value.ref 0)] }
noncomputable def o85 (P : Params) : Obj := { cls := Value.type "tuple", data := Data.seq #[] }
noncomputable def o86 (P : Params) : Obj := { cls := Value.none, data := Data.fields #[] }
noncomputable def o87 (P : Params) : Obj := { cls := Value.type "tuple", data := Data.seq #[Value.str "self" 291, Value.str "bound" 292, Value.str "may_follow" 293, Value.str "owes" 294, Value.str "parted_from" 295] }
noncomputable def o88 (P : Params) : Obj := { cls := Value.type "tuple", data := Data.seq #[] }
noncomputable def o89 (P : Params) : Obj := { cls := Value.none, data := Data.func { name := "__init__", qualname := "State.__init__", params := L2.defArgs Sh.s_State_init, body := FuncBody.stmts (L2.defBody Sh.s_State_init), scope := L2.defScope Sh.s_State_init, globals := 0, closure := [], defaults := Value.none, kwdefaults := Value.none } }
noncomputable def o90 (P : Params) : Obj := { cls := Value.type "code", data := Data.fields #[Value.str "__init__" 288, Value.str "State.__init__" 289, Value.str "/claim/cut.py" 290, Value.int 34 0, Value.int 5 0, Value.int 0 0, Value.int 0 0, Value.int 3 0, Value.ref 85, Value.bool Bool.true, Value.int 181 0, Value.ref 86, Value.none, Value.ref 87, Value.ref 88, Value.ref 89, Value.int 296 0, Value.int 34 0, Value.str "/claim/cut.py" 297] }
noncomputable def o91 (P : Params) : Obj := { cls := Value.type "function", data := Data.func { name := "__init__", qualname := "State.__init__", params := L2.defArgs Sh.s_State_init, body := FuncBody.stmts (L2.defBody Sh.s_State_init), scope := L2.defScope Sh.s_State_init, globals := 3, closure := [], defaults := Value.none, kwdefaults := Value.none, pyModule := Value.str "stateheirs.record" 229, code := Value.ref 90 } }
noncomputable def o92 (P : Params) : Obj := { cls := Value.type "tuple", data := Data.seq #[] }
noncomputable def o93 (P : Params) : Obj := { cls := Value.none, data := Data.fields #[] }
noncomputable def o94 (P : Params) : Obj := { cls := Value.type "tuple", data := Data.seq #[Value.str "self" 302] }
noncomputable def o95 (P : Params) : Obj := { cls := Value.type "tuple", data := Data.seq #[] }
noncomputable def o96 (P : Params) : Obj := { cls := Value.none, data := Data.func { name := "is_there", qualname := "State.is_there", params := L2.defArgs Sh.s_State_is_there, body := FuncBody.stmts (L2.defBody Sh.s_State_is_there), scope := L2.defScope Sh.s_State_is_there, globals := 0, closure := [], defaults := Value.none, kwdefaults := Value.none } }
noncomputable def o97 (P : Params) : Obj := { cls := Value.type "code", data := Data.fields #[Value.str "is_there" 299, Value.str "State.is_there" 300, Value.str "/claim/cut.py" 301, Value.int 41 0, Value.int 1 0, Value.int 0 0, Value.int 0 0, Value.int 3 0, Value.ref 92, Value.bool Bool.true, Value.int 181 0, Value.ref 93, Value.none, Value.ref 94, Value.ref 95, Value.ref 96, Value.int 303 0, Value.int 41 0, Value.str "/claim/cut.py" 304] }
noncomputable def o98 (P : Params) : Obj := { cls := Value.type "function", data := Data.func { name := "is_there", qualname := "State.is_there", params := L2.defArgs Sh.s_State_is_there, body := FuncBody.stmts (L2.defBody Sh.s_State_is_there), scope := L2.defScope Sh.s_State_is_there, globals := 3, closure := [], defaults := Value.none, kwdefaults := Value.none, pyModule := Value.str "stateheirs.record" 229, code := Value.ref 97 } }
noncomputable def o99 (P : Params) : Obj := { cls := Value.type "tuple", data := Data.seq #[] }
noncomputable def o100 (P : Params) : Obj := { cls := Value.none, data := Data.fields #[] }
noncomputable def o101 (P : Params) : Obj := { cls := Value.type "tuple", data := Data.seq #[Value.str "self" 309, Value.str "taker" 310] }
noncomputable def o102 (P : Params) : Obj := { cls := Value.type "tuple", data := Data.seq #[] }
noncomputable def o103 (P : Params) : Obj := { cls := Value.none, data := Data.func { name := "vanish_into", qualname := "State.vanish_into", params := L2.defArgs Sh.s_State_vanish_into, body := FuncBody.stmts (L2.defBody Sh.s_State_vanish_into), scope := L2.defScope Sh.s_State_vanish_into, globals := 0, closure := [], defaults := Value.none, kwdefaults := Value.none } }
noncomputable def o104 (P : Params) : Obj := { cls := Value.type "code", data := Data.fields #[Value.str "vanish_into" 306, Value.str "State.vanish_into" 307, Value.str "/claim/cut.py" 308, Value.int 44 0, Value.int 2 0, Value.int 0 0, Value.int 0 0, Value.int 3 0, Value.ref 99, Value.bool Bool.true, Value.int 181 0, Value.ref 100, Value.none, Value.ref 101, Value.ref 102, Value.ref 103, Value.int 311 0, Value.int 44 0, Value.str "/claim/cut.py" 312] }
noncomputable def o105 (P : Params) : Obj := { cls := Value.type "function", data := Data.func { name := "vanish_into", qualname := "State.vanish_into", params := L2.defArgs Sh.s_State_vanish_into, body := FuncBody.stmts (L2.defBody Sh.s_State_vanish_into), scope := L2.defScope Sh.s_State_vanish_into, globals := 3, closure := [], defaults := Value.none, kwdefaults := Value.none, pyModule := Value.str "stateheirs.record" 229, code := Value.ref 104 } }
noncomputable def o106 (P : Params) : Obj := { cls := Value.type "tuple", data := Data.seq #[] }
noncomputable def o107 (P : Params) : Obj := { cls := Value.none, data := Data.fields #[] }
noncomputable def o108 (P : Params) : Obj := { cls := Value.type "tuple", data := Data.seq #[Value.str "self" 317, Value.str "twin" 318] }
noncomputable def o109 (P : Params) : Obj := { cls := Value.type "tuple", data := Data.seq #[] }
noncomputable def o110 (P : Params) : Obj := { cls := Value.none, data := Data.func { name := "copied", qualname := "State.copied", params := L2.defArgs Sh.s_State_copied, body := FuncBody.stmts (L2.defBody Sh.s_State_copied), scope := L2.defScope Sh.s_State_copied, globals := 0, closure := [], defaults := Value.none, kwdefaults := Value.none } }
noncomputable def o111 (P : Params) : Obj := { cls := Value.type "code", data := Data.fields #[Value.str "copied" 314, Value.str "State.copied" 315, Value.str "/claim/cut.py" 316, Value.int 50 0, Value.int 1 0, Value.int 0 0, Value.int 0 0, Value.int 3 0, Value.ref 106, Value.bool Bool.true, Value.int 181 0, Value.ref 107, Value.none, Value.ref 108, Value.ref 109, Value.ref 110, Value.int 319 0, Value.int 50 0, Value.str "/claim/cut.py" 320] }
noncomputable def o112 (P : Params) : Obj := { cls := Value.type "function", data := Data.func { name := "copied", qualname := "State.copied", params := L2.defArgs Sh.s_State_copied, body := FuncBody.stmts (L2.defBody Sh.s_State_copied), scope := L2.defScope Sh.s_State_copied, globals := 3, closure := [], defaults := Value.none, kwdefaults := Value.none, pyModule := Value.str "stateheirs.record" 229, code := Value.ref 111 } }
noncomputable def o113 (P : Params) : Obj := { cls := Value.type "tuple", data := Data.seq #[Value.str "bound" 322, Value.str "may_follow" 323, Value.str "owes" 324, Value.str "parted_from" 325, Value.str "taken_by" 326] }
noncomputable def o114 (P : Params) : Obj := { cls := Value.type "dict", data := Data.dict #[{ hash := PyData.keyHash P "__module__", key := Value.str "__module__" 283, val := Value.str "stateheirs.record" 229 }, { hash := PyData.keyHash P "__firstlineno__", key := Value.str "__firstlineno__" 287, val := Value.int 32 286 }, { hash := PyData.keyHash P "__init__", key := Value.str "__init__" 298, val := Value.ref 91 }, { hash := PyData.keyHash P "is_there", key := Value.str "is_there" 305, val := Value.ref 98 }, { hash := PyData.keyHash P "vanish_into", key := Value.str "vanish_into" 313, val := Value.ref 105 }, { hash := PyData.keyHash P "copied", key := Value.str "copied" 321, val := Value.ref 112 }, { hash := PyData.keyHash P "__static_attributes__", key := Value.str "__static_attributes__" 327, val := Value.ref 113 }, { hash := PyData.keyHash P "__dict__", key := Value.str "__dict__" 329, val := Value.ref 116 }, { hash := PyData.keyHash P "__weakref__", key := Value.str "__weakref__" 331, val := Value.ref 117 }, { hash := PyData.keyHash P "__doc__", key := Value.str "__doc__" 332, val := Value.none }] 4 }
noncomputable def o115 (P : Params) : Obj := { cls := Value.type "type", data := Data.cls { name := "State", bases := [Value.type "object"], mro := [Value.ref 115, Value.type "object"], ns := 114, qualname := "State" }, slots := #[Option.none, Option.none, Option.some (Value.str "State" 276), Option.some (Value.str "State" 284), Option.some (Value.builtin "object.__new__"), Option.some (Value.bool Bool.true)] }
noncomputable def o116 (P : Params) : Obj := { cls := Value.type "getset_descriptor", data := Data.fields #[Value.str "__dict__" 328, Value.ref 115, Value.builtin "function.__dict__", Value.builtin "function.__dict__#set"] }
noncomputable def o117 (P : Params) : Obj := { cls := Value.type "getset_descriptor", data := Data.fields #[Value.str "__weakref__" 330, Value.ref 115, Value.builtin "ExceptionGroup.__weakref__", Value.none] }
noncomputable def o118 (P : Params) : Obj := { cls := Value.type "super", data := Data.fields #[Value.ref 115, Value.ref 115, Value.ref 115] }
noncomputable def o119 (P : Params) : Obj := { cls := Value.type "builtin_function_or_method", data := Data.fields #[Value.builtin "object.__init_subclass__", Value.ref 115] }
noncomputable def o120 (P : Params) : Obj := { cls := Value.type "tuple", data := Data.seq #[] }
noncomputable def o121 (P : Params) : Obj := { cls := Value.type "builtin_function_or_method", data := Data.fields #[Value.builtin "type.__prepare__", Value.type "type"] }
noncomputable def o122 (P : Params) : Obj := { cls := Value.type "dict", data := Data.dict #[{ hash := PyData.keyHash P "__module__", key := Value.str "__module__" 342, val := Value.str "stateheirs.record" 229 }, { hash := PyData.keyHash P "__qualname__", key := Value.str "__qualname__" 344, val := Value.str "Record" 343 }, { hash := PyData.keyHash P "__firstlineno__", key := Value.str "__firstlineno__" 346, val := Value.int 54 345 }, { hash := PyData.keyHash P "__init__", key := Value.str "__init__" 353, val := Value.ref 133 }, { hash := PyData.keyHash P "begin", key := Value.str "begin" 359, val := Value.ref 138 }, { hash := PyData.keyHash P "has_state", key := Value.str "has_state" 367, val := Value.ref 145 }, { hash := PyData.keyHash P "had_state", key := Value.str "had_state" 375, val := Value.ref 152 }, { hash := PyData.keyHash P "has_treaty", key := Value.str "has_treaty" 383, val := Value.ref 159 }, { hash := PyData.keyHash P "is_full", key := Value.str "is_full" 390, val := Value.ref 166 }, { hash := PyData.keyHash P "who_is_there", key := Value.str "who_is_there" 400, val := Value.ref 173 }, { hash := PyData.keyHash P "total_debt", key := Value.str "total_debt" 406, val := Value.ref 178 }, { hash := PyData.keyHash P "who_is_bound", key := Value.str "who_is_bound" 417, val := Value.ref 185 }, { hash := PyData.keyHash P "line", key := Value.str "line" 427, val := Value.ref 192 }, { hash := PyData.keyHash P "ends_up_in", key := Value.str "ends_up_in" 435, val := Value.ref 199 }, { hash := PyData.keyHash P "heirs", key := Value.str "heirs" 445, val := Value.ref 206 }, { hash := PyData.keyHash P "part", key := Value.str "part" 459, val := Value.ref 213 }, { hash := PyData.keyHash P "take_up", key := Value.str "take_up" 471, val := Value.ref 220 }, { hash := PyData.keyHash P "copied_states", key := Value.str "copied_states" 477, val := Value.ref 225 }, { hash := PyData.keyHash P "keep_change", key := Value.str "keep_change" 485, val := Value.ref 232 }, { hash := PyData.keyHash P "take_back", key := Value.str "take_back" 492, val := Value.ref 239 }, { hash := PyData.keyHash P "do_again", key := Value.str "do_again" 499, val := Value.ref 246 }, { hash := PyData.keyHash P "__static_attributes__", key := Value.str "__static_attributes__" 504, val := Value.ref 247 }] 22 }
noncomputable def o123 (P : Params) : Obj := { cls := Value.type "tuple", data := Data.seq #[] }
noncomputable def o124 (P : Params) : Obj := { cls := Value.none, data := Data.fields #[Value.int 56 0, Value.int 4 0, Value.ref 132, Value.int 59 0, Value.int 4 0, Value.ref 137, Value.int 65 0, Value.int 4 0, Value.ref 144, Value.int 68 0, Value.int 4 0, Value.ref 151, Value.int 71 0, Value.int 4 0, Value.ref 158, Value.int 74 0, Value.int 4 0, Value.ref 165, Value.int 77 0, Value.int 4 0, Value.ref 172, Value.int 84 0, Value.int 4 0, Value.ref 177, Value.int 87 0, Value.int 4 0, Value.ref 184, Value.int 94 0, Value.int 4 0, Value.ref 191, Value.int 102 0, Value.int 4 0, Value.ref 198, Value.int 107 0, Value.int 4 0, Value.ref 205, Value.int 114 0, Value.int 4 0, Value.ref 212, Value.int 122 0, Value.int 4 0, Value.ref 219, Value.int 131 0, Value.int 4 0, Value.ref 224, Value.int 134 0, Value.int 4 0, Value.ref 231, Value.int 140 0, Value.int 4 0, Value.ref 238, Value.int 144 0, Value.int 4 0, Value.ref 245] }
noncomputable def o125 (P : Params) : Obj := { cls := Value.type "code", data := Data.fields #[Value.str "Record" 337, Value.str "Record" 338, Value.str "/claim/cut.py" 339, Value.int 54 0, Value.int 0 0, Value.int 0 0, Value.int 0 0, Value.int 0 0, Value.ref 123, Value.bool Bool.false, Value.int 181 0, Value.ref 124, Value.none, Value.none, Value.none, Value.none, Value.int 340 0, Value.int 54 0, Value.str "/claim/cut.py" 341] }
noncomputable def o126 (P : Params) : Obj := { cls := Value.type "frame", slots := #[Option.some (Value.ref 125), Option.some (Value.ref 3), Option.some (Value.ref 122), Option.none, Option.some (Value.str "stateheirs.record" 229), Option.none, Option.some (Value.ref 0)] }
noncomputable def o127 (P : Params) : Obj := { cls := Value.type "tuple", data := Data.seq #[] }
noncomputable def o128 (P : Params) : Obj := { cls := Value.none, data := Data.fields #[] }
noncomputable def o129 (P : Params) : Obj := { cls := Value.type "tuple", data := Data.seq #[Value.str "self" 350] }
noncomputable def o130 (P : Params) : Obj := { cls := Value.type "tuple", data := Data.seq #[] }
noncomputable def o131 (P : Params) : Obj := { cls := Value.none, data := Data.func { name := "__init__", qualname := "Record.__init__", params := L2.defArgs Sh.s_Record_init, body := FuncBody.stmts (L2.defBody Sh.s_Record_init), scope := L2.defScope Sh.s_Record_init, globals := 0, closure := [], defaults := Value.none, kwdefaults := Value.none } }
noncomputable def o132 (P : Params) : Obj := { cls := Value.type "code", data := Data.fields #[Value.str "__init__" 347, Value.str "Record.__init__" 348, Value.str "/claim/cut.py" 349, Value.int 56 0, Value.int 1 0, Value.int 0 0, Value.int 0 0, Value.int 3 0, Value.ref 127, Value.bool Bool.true, Value.int 181 0, Value.ref 128, Value.none, Value.ref 129, Value.ref 130, Value.ref 131, Value.int 351 0, Value.int 56 0, Value.str "/claim/cut.py" 352] }
noncomputable def o133 (P : Params) : Obj := { cls := Value.type "function", data := Data.func { name := "__init__", qualname := "Record.__init__", params := L2.defArgs Sh.s_Record_init, body := FuncBody.stmts (L2.defBody Sh.s_Record_init), scope := L2.defScope Sh.s_Record_init, globals := 3, closure := [], defaults := Value.none, kwdefaults := Value.none, pyModule := Value.str "stateheirs.record" 229, code := Value.ref 132 } }
noncomputable def o134 (P : Params) : Obj := { cls := Value.type "tuple", data := Data.seq #[] }
noncomputable def o135 (P : Params) : Obj := { cls := Value.none, data := Data.fields #[] }
noncomputable def o136 (P : Params) : Obj := { cls := Value.none, data := Data.func { name := "begin", qualname := "Record.begin", params := L2.defArgs Sh.s_Record_begin, body := FuncBody.stmts (L2.defBody Sh.s_Record_begin), scope := L2.defScope Sh.s_Record_begin, globals := 0, closure := [], defaults := Value.none, kwdefaults := Value.none } }
noncomputable def o137 (P : Params) : Obj := { cls := Value.type "code", data := Data.fields #[Value.str "begin" 354, Value.str "Record.begin" 355, Value.str "/claim/cut.py" 356, Value.int 59 0, Value.int 3 0, Value.int 0 0, Value.int 0 0, Value.int 3 0, Value.ref 134, Value.bool Bool.true, Value.int 181 0, Value.ref 135, Value.none, Value.none, Value.none, Value.ref 136, Value.int 357 0, Value.int 59 0, Value.str "/claim/cut.py" 358] }
noncomputable def o138 (P : Params) : Obj := { cls := Value.type "function", data := Data.func { name := "begin", qualname := "Record.begin", params := L2.defArgs Sh.s_Record_begin, body := FuncBody.stmts (L2.defBody Sh.s_Record_begin), scope := L2.defScope Sh.s_Record_begin, globals := 3, closure := [], defaults := Value.none, kwdefaults := Value.none, pyModule := Value.str "stateheirs.record" 229, code := Value.ref 137 } }
noncomputable def o139 (P : Params) : Obj := { cls := Value.type "tuple", data := Data.seq #[] }
noncomputable def o140 (P : Params) : Obj := { cls := Value.none, data := Data.fields #[] }
noncomputable def o141 (P : Params) : Obj := { cls := Value.type "tuple", data := Data.seq #[Value.str "self" 363, Value.str "i" 364] }
noncomputable def o142 (P : Params) : Obj := { cls := Value.type "tuple", data := Data.seq #[] }
noncomputable def o143 (P : Params) : Obj := { cls := Value.none, data := Data.func { name := "has_state", qualname := "Record.has_state", params := L2.defArgs Sh.s_Record_has_state, body := FuncBody.stmts (L2.defBody Sh.s_Record_has_state), scope := L2.defScope Sh.s_Record_has_state, globals := 0, closure := [], defaults := Value.none, kwdefaults := Value.none } }
noncomputable def o144 (P : Params) : Obj := { cls := Value.type "code", data := Data.fields #[Value.str "has_state" 360, Value.str "Record.has_state" 361, Value.str "/claim/cut.py" 362, Value.int 65 0, Value.int 2 0, Value.int 0 0, Value.int 0 0, Value.int 3 0, Value.ref 139, Value.bool Bool.true, Value.int 181 0, Value.ref 140, Value.none, Value.ref 141, Value.ref 142, Value.ref 143, Value.int 365 0, Value.int 65 0, Value.str "/claim/cut.py" 366] }
noncomputable def o145 (P : Params) : Obj := { cls := Value.type "function", data := Data.func { name := "has_state", qualname := "Record.has_state", params := L2.defArgs Sh.s_Record_has_state, body := FuncBody.stmts (L2.defBody Sh.s_Record_has_state), scope := L2.defScope Sh.s_Record_has_state, globals := 3, closure := [], defaults := Value.none, kwdefaults := Value.none, pyModule := Value.str "stateheirs.record" 229, code := Value.ref 144 } }
noncomputable def o146 (P : Params) : Obj := { cls := Value.type "tuple", data := Data.seq #[] }
noncomputable def o147 (P : Params) : Obj := { cls := Value.none, data := Data.fields #[] }
noncomputable def o148 (P : Params) : Obj := { cls := Value.type "tuple", data := Data.seq #[Value.str "self" 371, Value.str "i" 372] }
noncomputable def o149 (P : Params) : Obj := { cls := Value.type "tuple", data := Data.seq #[] }
noncomputable def o150 (P : Params) : Obj := { cls := Value.none, data := Data.func { name := "had_state", qualname := "Record.had_state", params := L2.defArgs Sh.s_Record_had_state, body := FuncBody.stmts (L2.defBody Sh.s_Record_had_state), scope := L2.defScope Sh.s_Record_had_state, globals := 0, closure := [], defaults := Value.none, kwdefaults := Value.none } }
noncomputable def o151 (P : Params) : Obj := { cls := Value.type "code", data := Data.fields #[Value.str "had_state" 368, Value.str "Record.had_state" 369, Value.str "/claim/cut.py" 370, Value.int 68 0, Value.int 2 0, Value.int 0 0, Value.int 0 0, Value.int 3 0, Value.ref 146, Value.bool Bool.true, Value.int 181 0, Value.ref 147, Value.none, Value.ref 148, Value.ref 149, Value.ref 150, Value.int 373 0, Value.int 68 0, Value.str "/claim/cut.py" 374] }
noncomputable def o152 (P : Params) : Obj := { cls := Value.type "function", data := Data.func { name := "had_state", qualname := "Record.had_state", params := L2.defArgs Sh.s_Record_had_state, body := FuncBody.stmts (L2.defBody Sh.s_Record_had_state), scope := L2.defScope Sh.s_Record_had_state, globals := 3, closure := [], defaults := Value.none, kwdefaults := Value.none, pyModule := Value.str "stateheirs.record" 229, code := Value.ref 151 } }
noncomputable def o153 (P : Params) : Obj := { cls := Value.type "tuple", data := Data.seq #[] }
noncomputable def o154 (P : Params) : Obj := { cls := Value.none, data := Data.fields #[] }
noncomputable def o155 (P : Params) : Obj := { cls := Value.type "tuple", data := Data.seq #[Value.str "self" 379, Value.str "t" 380] }
noncomputable def o156 (P : Params) : Obj := { cls := Value.type "tuple", data := Data.seq #[] }
noncomputable def o157 (P : Params) : Obj := { cls := Value.none, data := Data.func { name := "has_treaty", qualname := "Record.has_treaty", params := L2.defArgs Sh.s_Record_has_treaty, body := FuncBody.stmts (L2.defBody Sh.s_Record_has_treaty), scope := L2.defScope Sh.s_Record_has_treaty, globals := 0, closure := [], defaults := Value.none, kwdefaults := Value.none } }
noncomputable def o158 (P : Params) : Obj := { cls := Value.type "code", data := Data.fields #[Value.str "has_treaty" 376, Value.str "Record.has_treaty" 377, Value.str "/claim/cut.py" 378, Value.int 71 0, Value.int 2 0, Value.int 0 0, Value.int 0 0, Value.int 3 0, Value.ref 153, Value.bool Bool.true, Value.int 181 0, Value.ref 154, Value.none, Value.ref 155, Value.ref 156, Value.ref 157, Value.int 381 0, Value.int 71 0, Value.str "/claim/cut.py" 382] }
noncomputable def o159 (P : Params) : Obj := { cls := Value.type "function", data := Data.func { name := "has_treaty", qualname := "Record.has_treaty", params := L2.defArgs Sh.s_Record_has_treaty, body := FuncBody.stmts (L2.defBody Sh.s_Record_has_treaty), scope := L2.defScope Sh.s_Record_has_treaty, globals := 3, closure := [], defaults := Value.none, kwdefaults := Value.none, pyModule := Value.str "stateheirs.record" 229, code := Value.ref 158 } }
noncomputable def o160 (P : Params) : Obj := { cls := Value.type "tuple", data := Data.seq #[] }
noncomputable def o161 (P : Params) : Obj := { cls := Value.none, data := Data.fields #[] }
noncomputable def o162 (P : Params) : Obj := { cls := Value.type "tuple", data := Data.seq #[Value.str "self" 387] }
noncomputable def o163 (P : Params) : Obj := { cls := Value.type "tuple", data := Data.seq #[] }
noncomputable def o164 (P : Params) : Obj := { cls := Value.none, data := Data.func { name := "is_full", qualname := "Record.is_full", params := L2.defArgs Sh.s_Record_is_full, body := FuncBody.stmts (L2.defBody Sh.s_Record_is_full), scope := L2.defScope Sh.s_Record_is_full, globals := 0, closure := [], defaults := Value.none, kwdefaults := Value.none } }
noncomputable def o165 (P : Params) : Obj := { cls := Value.type "code", data := Data.fields #[Value.str "is_full" 384, Value.str "Record.is_full" 385, Value.str "/claim/cut.py" 386, Value.int 74 0, Value.int 1 0, Value.int 0 0, Value.int 0 0, Value.int 3 0, Value.ref 160, Value.bool Bool.true, Value.int 181 0, Value.ref 161, Value.none, Value.ref 162, Value.ref 163, Value.ref 164, Value.int 388 0, Value.int 74 0, Value.str "/claim/cut.py" 389] }
noncomputable def o166 (P : Params) : Obj := { cls := Value.type "function", data := Data.func { name := "is_full", qualname := "Record.is_full", params := L2.defArgs Sh.s_Record_is_full, body := FuncBody.stmts (L2.defBody Sh.s_Record_is_full), scope := L2.defScope Sh.s_Record_is_full, globals := 3, closure := [], defaults := Value.none, kwdefaults := Value.none, pyModule := Value.str "stateheirs.record" 229, code := Value.ref 165 } }
noncomputable def o167 (P : Params) : Obj := { cls := Value.type "tuple", data := Data.seq #[] }
noncomputable def o168 (P : Params) : Obj := { cls := Value.none, data := Data.fields #[] }
noncomputable def o169 (P : Params) : Obj := { cls := Value.type "tuple", data := Data.seq #[Value.str "self" 394, Value.str "many" 395, Value.str "number" 396, Value.str "state" 397] }
noncomputable def o170 (P : Params) : Obj := { cls := Value.type "tuple", data := Data.seq #[] }
noncomputable def o171 (P : Params) : Obj := { cls := Value.none, data := Data.func { name := "who_is_there", qualname := "Record.who_is_there", params := L2.defArgs Sh.s_Record_who_is_there, body := FuncBody.stmts (L2.defBody Sh.s_Record_who_is_there), scope := L2.defScope Sh.s_Record_who_is_there, globals := 0, closure := [], defaults := Value.none, kwdefaults := Value.none } }
noncomputable def o172 (P : Params) : Obj := { cls := Value.type "code", data := Data.fields #[Value.str "who_is_there" 391, Value.str "Record.who_is_there" 392, Value.str "/claim/cut.py" 393, Value.int 77 0, Value.int 1 0, Value.int 0 0, Value.int 0 0, Value.int 3 0, Value.ref 167, Value.bool Bool.true, Value.int 181 0, Value.ref 168, Value.none, Value.ref 169, Value.ref 170, Value.ref 171, Value.int 398 0, Value.int 77 0, Value.str "/claim/cut.py" 399] }
noncomputable def o173 (P : Params) : Obj := { cls := Value.type "function", data := Data.func { name := "who_is_there", qualname := "Record.who_is_there", params := L2.defArgs Sh.s_Record_who_is_there, body := FuncBody.stmts (L2.defBody Sh.s_Record_who_is_there), scope := L2.defScope Sh.s_Record_who_is_there, globals := 3, closure := [], defaults := Value.none, kwdefaults := Value.none, pyModule := Value.str "stateheirs.record" 229, code := Value.ref 172 } }
noncomputable def o174 (P : Params) : Obj := { cls := Value.type "tuple", data := Data.seq #[] }
noncomputable def o175 (P : Params) : Obj := { cls := Value.none, data := Data.fields #[] }
noncomputable def o176 (P : Params) : Obj := { cls := Value.none, data := Data.func { name := "total_debt", qualname := "Record.total_debt", params := L2.defArgs Sh.s_Record_total_debt, body := FuncBody.stmts (L2.defBody Sh.s_Record_total_debt), scope := L2.defScope Sh.s_Record_total_debt, globals := 0, closure := [], defaults := Value.none, kwdefaults := Value.none } }
noncomputable def o177 (P : Params) : Obj := { cls := Value.type "code", data := Data.fields #[Value.str "total_debt" 401, Value.str "Record.total_debt" 402, Value.str "/claim/cut.py" 403, Value.int 84 0, Value.int 1 0, Value.int 0 0, Value.int 0 0, Value.int 3 0, Value.ref 174, Value.bool Bool.true, Value.int 181 0, Value.ref 175, Value.none, Value.none, Value.none, Value.ref 176, Value.int 404 0, Value.int 84 0, Value.str "/claim/cut.py" 405] }
noncomputable def o178 (P : Params) : Obj := { cls := Value.type "function", data := Data.func { name := "total_debt", qualname := "Record.total_debt", params := L2.defArgs Sh.s_Record_total_debt, body := FuncBody.stmts (L2.defBody Sh.s_Record_total_debt), scope := L2.defScope Sh.s_Record_total_debt, globals := 3, closure := [], defaults := Value.none, kwdefaults := Value.none, pyModule := Value.str "stateheirs.record" 229, code := Value.ref 177 } }
noncomputable def o179 (P : Params) : Obj := { cls := Value.type "tuple", data := Data.seq #[] }
noncomputable def o180 (P : Params) : Obj := { cls := Value.none, data := Data.fields #[] }
noncomputable def o181 (P : Params) : Obj := { cls := Value.type "tuple", data := Data.seq #[Value.str "self" 410, Value.str "t" 411, Value.str "many" 412, Value.str "number" 413, Value.str "state" 414] }
noncomputable def o182 (P : Params) : Obj := { cls := Value.type "tuple", data := Data.seq #[] }
noncomputable def o183 (P : Params) : Obj := { cls := Value.none, data := Data.func { name := "who_is_bound", qualname := "Record.who_is_bound", params := L2.defArgs Sh.s_Record_who_is_bound, body := FuncBody.stmts (L2.defBody Sh.s_Record_who_is_bound), scope := L2.defScope Sh.s_Record_who_is_bound, globals := 0, closure := [], defaults := Value.none, kwdefaults := Value.none } }
noncomputable def o184 (P : Params) : Obj := { cls := Value.type "code", data := Data.fields #[Value.str "who_is_bound" 407, Value.str "Record.who_is_bound" 408, Value.str "/claim/cut.py" 409, Value.int 87 0, Value.int 2 0, Value.int 0 0, Value.int 0 0, Value.int 3 0, Value.ref 179, Value.bool Bool.true, Value.int 181 0, Value.ref 180, Value.none, Value.ref 181, Value.ref 182, Value.ref 183, Value.int 415 0, Value.int 87 0, Value.str "/claim/cut.py" 416] }
noncomputable def o185 (P : Params) : Obj := { cls := Value.type "function", data := Data.func { name := "who_is_bound", qualname := "Record.who_is_bound", params := L2.defArgs Sh.s_Record_who_is_bound, body := FuncBody.stmts (L2.defBody Sh.s_Record_who_is_bound), scope := L2.defScope Sh.s_Record_who_is_bound, globals := 3, closure := [], defaults := Value.none, kwdefaults := Value.none, pyModule := Value.str "stateheirs.record" 229, code := Value.ref 184 } }
noncomputable def o186 (P : Params) : Obj := { cls := Value.type "tuple", data := Data.seq #[] }
noncomputable def o187 (P : Params) : Obj := { cls := Value.none, data := Data.fields #[] }
noncomputable def o188 (P : Params) : Obj := { cls := Value.type "tuple", data := Data.seq #[Value.str "self" 421, Value.str "i" 422, Value.str "many" 423, Value.str "parent" 424] }
noncomputable def o189 (P : Params) : Obj := { cls := Value.type "tuple", data := Data.seq #[] }
noncomputable def o190 (P : Params) : Obj := { cls := Value.none, data := Data.func { name := "line", qualname := "Record.line", params := L2.defArgs Sh.s_Record_line, body := FuncBody.stmts (L2.defBody Sh.s_Record_line), scope := L2.defScope Sh.s_Record_line, globals := 0, closure := [], defaults := Value.none, kwdefaults := Value.none } }
noncomputable def o191 (P : Params) : Obj := { cls := Value.type "code", data := Data.fields #[Value.str "line" 418, Value.str "Record.line" 419, Value.str "/claim/cut.py" 420, Value.int 94 0, Value.int 2 0, Value.int 0 0, Value.int 0 0, Value.int 3 0, Value.ref 186, Value.bool Bool.true, Value.int 181 0, Value.ref 187, Value.none, Value.ref 188, Value.ref 189, Value.ref 190, Value.int 425 0, Value.int 94 0, Value.str "/claim/cut.py" 426] }
noncomputable def o192 (P : Params) : Obj := { cls := Value.type "function", data := Data.func { name := "line", qualname := "Record.line", params := L2.defArgs Sh.s_Record_line, body := FuncBody.stmts (L2.defBody Sh.s_Record_line), scope := L2.defScope Sh.s_Record_line, globals := 3, closure := [], defaults := Value.none, kwdefaults := Value.none, pyModule := Value.str "stateheirs.record" 229, code := Value.ref 191 } }
noncomputable def o193 (P : Params) : Obj := { cls := Value.type "tuple", data := Data.seq #[] }
noncomputable def o194 (P : Params) : Obj := { cls := Value.none, data := Data.fields #[] }
noncomputable def o195 (P : Params) : Obj := { cls := Value.type "tuple", data := Data.seq #[Value.str "self" 431, Value.str "i" 432] }
noncomputable def o196 (P : Params) : Obj := { cls := Value.type "tuple", data := Data.seq #[] }
noncomputable def o197 (P : Params) : Obj := { cls := Value.none, data := Data.func { name := "ends_up_in", qualname := "Record.ends_up_in", params := L2.defArgs Sh.s_Record_ends_up_in, body := FuncBody.stmts (L2.defBody Sh.s_Record_ends_up_in), scope := L2.defScope Sh.s_Record_ends_up_in, globals := 0, closure := [], defaults := Value.none, kwdefaults := Value.none } }
noncomputable def o198 (P : Params) : Obj := { cls := Value.type "code", data := Data.fields #[Value.str "ends_up_in" 428, Value.str "Record.ends_up_in" 429, Value.str "/claim/cut.py" 430, Value.int 102 0, Value.int 2 0, Value.int 0 0, Value.int 0 0, Value.int 3 0, Value.ref 193, Value.bool Bool.true, Value.int 181 0, Value.ref 194, Value.none, Value.ref 195, Value.ref 196, Value.ref 197, Value.int 433 0, Value.int 102 0, Value.str "/claim/cut.py" 434] }
noncomputable def o199 (P : Params) : Obj := { cls := Value.type "function", data := Data.func { name := "ends_up_in", qualname := "Record.ends_up_in", params := L2.defArgs Sh.s_Record_ends_up_in, body := FuncBody.stmts (L2.defBody Sh.s_Record_ends_up_in), scope := L2.defScope Sh.s_Record_ends_up_in, globals := 3, closure := [], defaults := Value.none, kwdefaults := Value.none, pyModule := Value.str "stateheirs.record" 229, code := Value.ref 198 } }
noncomputable def o200 (P : Params) : Obj := { cls := Value.type "tuple", data := Data.seq #[] }
noncomputable def o201 (P : Params) : Obj := { cls := Value.none, data := Data.fields #[] }
noncomputable def o202 (P : Params) : Obj := { cls := Value.type "tuple", data := Data.seq #[Value.str "self" 439, Value.str "i" 440, Value.str "many" 441, Value.str "number" 442] }
noncomputable def o203 (P : Params) : Obj := { cls := Value.type "tuple", data := Data.seq #[] }
noncomputable def o204 (P : Params) : Obj := { cls := Value.none, data := Data.func { name := "heirs", qualname := "Record.heirs", params := L2.defArgs Sh.s_Record_heirs, body := FuncBody.stmts (L2.defBody Sh.s_Record_heirs), scope := L2.defScope Sh.s_Record_heirs, globals := 0, closure := [], defaults := Value.none, kwdefaults := Value.none } }
noncomputable def o205 (P : Params) : Obj := { cls := Value.type "code", data := Data.fields #[Value.str "heirs" 436, Value.str "Record.heirs" 437, Value.str "/claim/cut.py" 438, Value.int 107 0, Value.int 2 0, Value.int 0 0, Value.int 0 0, Value.int 3 0, Value.ref 200, Value.bool Bool.true, Value.int 181 0, Value.ref 201, Value.none, Value.ref 202, Value.ref 203, Value.ref 204, Value.int 443 0, Value.int 107 0, Value.str "/claim/cut.py" 444] }
noncomputable def o206 (P : Params) : Obj := { cls := Value.type "function", data := Data.func { name := "heirs", qualname := "Record.heirs", params := L2.defArgs Sh.s_Record_heirs, body := FuncBody.stmts (L2.defBody Sh.s_Record_heirs), scope := L2.defScope Sh.s_Record_heirs, globals := 3, closure := [], defaults := Value.none, kwdefaults := Value.none, pyModule := Value.str "stateheirs.record" 229, code := Value.ref 205 } }
noncomputable def o207 (P : Params) : Obj := { cls := Value.type "tuple", data := Data.seq #[] }
noncomputable def o208 (P : Params) : Obj := { cls := Value.none, data := Data.fields #[] }
noncomputable def o209 (P : Params) : Obj := { cls := Value.type "tuple", data := Data.seq #[Value.str "self" 449, Value.str "i" 450, Value.str "mode" 451, Value.str "p" 452, Value.str "q" 453, Value.str "old" 454, Value.str "kept" 455, Value.str "new_bound" 456] }
noncomputable def o210 (P : Params) : Obj := { cls := Value.type "tuple", data := Data.seq #[] }
noncomputable def o211 (P : Params) : Obj := { cls := Value.none, data := Data.func { name := "part", qualname := "Record.part", params := L2.defArgs Sh.s_Record_part, body := FuncBody.stmts (L2.defBody Sh.s_Record_part), scope := L2.defScope Sh.s_Record_part, globals := 0, closure := [], defaults := Value.none, kwdefaults := Value.none } }
noncomputable def o212 (P : Params) : Obj := { cls := Value.type "code", data := Data.fields #[Value.str "part" 446, Value.str "Record.part" 447, Value.str "/claim/cut.py" 448, Value.int 114 0, Value.int 5 0, Value.int 0 0, Value.int 0 0, Value.int 3 0, Value.ref 207, Value.bool Bool.true, Value.int 181 0, Value.ref 208, Value.none, Value.ref 209, Value.ref 210, Value.ref 211, Value.int 457 0, Value.int 114 0, Value.str "/claim/cut.py" 458] }
noncomputable def o213 (P : Params) : Obj := { cls := Value.type "function", data := Data.func { name := "part", qualname := "Record.part", params := L2.defArgs Sh.s_Record_part, body := FuncBody.stmts (L2.defBody Sh.s_Record_part), scope := L2.defScope Sh.s_Record_part, globals := 3, closure := [], defaults := Value.none, kwdefaults := Value.none, pyModule := Value.str "stateheirs.record" 229, code := Value.ref 212 } }
noncomputable def o214 (P : Params) : Obj := { cls := Value.type "tuple", data := Data.seq #[] }
noncomputable def o215 (P : Params) : Obj := { cls := Value.none, data := Data.fields #[] }
noncomputable def o216 (P : Params) : Obj := { cls := Value.type "tuple", data := Data.seq #[Value.str "self" 463, Value.str "i" 464, Value.str "j" 465, Value.str "mode" 466, Value.str "taker" 467, Value.str "gone" 468] }
noncomputable def o217 (P : Params) : Obj := { cls := Value.type "tuple", data := Data.seq #[] }
noncomputable def o218 (P : Params) : Obj := { cls := Value.none, data := Data.func { name := "take_up", qualname := "Record.take_up", params := L2.defArgs Sh.s_Record_take_up, body := FuncBody.stmts (L2.defBody Sh.s_Record_take_up), scope := L2.defScope Sh.s_Record_take_up, globals := 0, closure := [], defaults := Value.none, kwdefaults := Value.none } }
noncomputable def o219 (P : Params) : Obj := { cls := Value.type "code", data := Data.fields #[Value.str "take_up" 460, Value.str "Record.take_up" 461, Value.str "/claim/cut.py" 462, Value.int 122 0, Value.int 4 0, Value.int 0 0, Value.int 0 0, Value.int 3 0, Value.ref 214, Value.bool Bool.true, Value.int 181 0, Value.ref 215, Value.none, Value.ref 216, Value.ref 217, Value.ref 218, Value.int 469 0, Value.int 122 0, Value.str "/claim/cut.py" 470] }
noncomputable def o220 (P : Params) : Obj := { cls := Value.type "function", data := Data.func { name := "take_up", qualname := "Record.take_up", params := L2.defArgs Sh.s_Record_take_up, body := FuncBody.stmts (L2.defBody Sh.s_Record_take_up), scope := L2.defScope Sh.s_Record_take_up, globals := 3, closure := [], defaults := Value.none, kwdefaults := Value.none, pyModule := Value.str "stateheirs.record" 229, code := Value.ref 219 } }
noncomputable def o221 (P : Params) : Obj := { cls := Value.type "tuple", data := Data.seq #[] }
noncomputable def o222 (P : Params) : Obj := { cls := Value.none, data := Data.fields #[] }
noncomputable def o223 (P : Params) : Obj := { cls := Value.none, data := Data.func { name := "copied_states", qualname := "Record.copied_states", params := L2.defArgs Sh.s_Record_copied_states, body := FuncBody.stmts (L2.defBody Sh.s_Record_copied_states), scope := L2.defScope Sh.s_Record_copied_states, globals := 0, closure := [], defaults := Value.none, kwdefaults := Value.none } }
noncomputable def o224 (P : Params) : Obj := { cls := Value.type "code", data := Data.fields #[Value.str "copied_states" 472, Value.str "Record.copied_states" 473, Value.str "/claim/cut.py" 474, Value.int 131 0, Value.int 1 0, Value.int 0 0, Value.int 0 0, Value.int 3 0, Value.ref 221, Value.bool Bool.true, Value.int 181 0, Value.ref 222, Value.none, Value.none, Value.none, Value.ref 223, Value.int 475 0, Value.int 131 0, Value.str "/claim/cut.py" 476] }
noncomputable def o225 (P : Params) : Obj := { cls := Value.type "function", data := Data.func { name := "copied_states", qualname := "Record.copied_states", params := L2.defArgs Sh.s_Record_copied_states, body := FuncBody.stmts (L2.defBody Sh.s_Record_copied_states), scope := L2.defScope Sh.s_Record_copied_states, globals := 3, closure := [], defaults := Value.none, kwdefaults := Value.none, pyModule := Value.str "stateheirs.record" 229, code := Value.ref 224 } }
noncomputable def o226 (P : Params) : Obj := { cls := Value.type "tuple", data := Data.seq #[] }
noncomputable def o227 (P : Params) : Obj := { cls := Value.none, data := Data.fields #[] }
noncomputable def o228 (P : Params) : Obj := { cls := Value.type "tuple", data := Data.seq #[Value.str "self" 481, Value.str "before" 482] }
noncomputable def o229 (P : Params) : Obj := { cls := Value.type "tuple", data := Data.seq #[] }
noncomputable def o230 (P : Params) : Obj := { cls := Value.none, data := Data.func { name := "keep_change", qualname := "Record.keep_change", params := L2.defArgs Sh.s_Record_keep_change, body := FuncBody.stmts (L2.defBody Sh.s_Record_keep_change), scope := L2.defScope Sh.s_Record_keep_change, globals := 0, closure := [], defaults := Value.none, kwdefaults := Value.none } }
noncomputable def o231 (P : Params) : Obj := { cls := Value.type "code", data := Data.fields #[Value.str "keep_change" 478, Value.str "Record.keep_change" 479, Value.str "/claim/cut.py" 480, Value.int 134 0, Value.int 2 0, Value.int 0 0, Value.int 0 0, Value.int 3 0, Value.ref 226, Value.bool Bool.true, Value.int 181 0, Value.ref 227, Value.none, Value.ref 228, Value.ref 229, Value.ref 230, Value.int 483 0, Value.int 134 0, Value.str "/claim/cut.py" 484] }
noncomputable def o232 (P : Params) : Obj := { cls := Value.type "function", data := Data.func { name := "keep_change", qualname := "Record.keep_change", params := L2.defArgs Sh.s_Record_keep_change, body := FuncBody.stmts (L2.defBody Sh.s_Record_keep_change), scope := L2.defScope Sh.s_Record_keep_change, globals := 3, closure := [], defaults := Value.none, kwdefaults := Value.none, pyModule := Value.str "stateheirs.record" 229, code := Value.ref 231 } }
noncomputable def o233 (P : Params) : Obj := { cls := Value.type "tuple", data := Data.seq #[] }
noncomputable def o234 (P : Params) : Obj := { cls := Value.none, data := Data.fields #[] }
noncomputable def o235 (P : Params) : Obj := { cls := Value.type "tuple", data := Data.seq #[Value.str "self" 489] }
noncomputable def o236 (P : Params) : Obj := { cls := Value.type "tuple", data := Data.seq #[] }
noncomputable def o237 (P : Params) : Obj := { cls := Value.none, data := Data.func { name := "take_back", qualname := "Record.take_back", params := L2.defArgs Sh.s_Record_take_back, body := FuncBody.stmts (L2.defBody Sh.s_Record_take_back), scope := L2.defScope Sh.s_Record_take_back, globals := 0, closure := [], defaults := Value.none, kwdefaults := Value.none } }
noncomputable def o238 (P : Params) : Obj := { cls := Value.type "code", data := Data.fields #[Value.str "take_back" 486, Value.str "Record.take_back" 487, Value.str "/claim/cut.py" 488, Value.int 140 0, Value.int 1 0, Value.int 0 0, Value.int 0 0, Value.int 3 0, Value.ref 233, Value.bool Bool.true, Value.int 181 0, Value.ref 234, Value.none, Value.ref 235, Value.ref 236, Value.ref 237, Value.int 490 0, Value.int 140 0, Value.str "/claim/cut.py" 491] }
noncomputable def o239 (P : Params) : Obj := { cls := Value.type "function", data := Data.func { name := "take_back", qualname := "Record.take_back", params := L2.defArgs Sh.s_Record_take_back, body := FuncBody.stmts (L2.defBody Sh.s_Record_take_back), scope := L2.defScope Sh.s_Record_take_back, globals := 3, closure := [], defaults := Value.none, kwdefaults := Value.none, pyModule := Value.str "stateheirs.record" 229, code := Value.ref 238 } }
noncomputable def o240 (P : Params) : Obj := { cls := Value.type "tuple", data := Data.seq #[] }
noncomputable def o241 (P : Params) : Obj := { cls := Value.none, data := Data.fields #[] }
noncomputable def o242 (P : Params) : Obj := { cls := Value.type "tuple", data := Data.seq #[Value.str "self" 496] }
noncomputable def o243 (P : Params) : Obj := { cls := Value.type "tuple", data := Data.seq #[] }
noncomputable def o244 (P : Params) : Obj := { cls := Value.none, data := Data.func { name := "do_again", qualname := "Record.do_again", params := L2.defArgs Sh.s_Record_do_again, body := FuncBody.stmts (L2.defBody Sh.s_Record_do_again), scope := L2.defScope Sh.s_Record_do_again, globals := 0, closure := [], defaults := Value.none, kwdefaults := Value.none } }
noncomputable def o245 (P : Params) : Obj := { cls := Value.type "code", data := Data.fields #[Value.str "do_again" 493, Value.str "Record.do_again" 494, Value.str "/claim/cut.py" 495, Value.int 144 0, Value.int 1 0, Value.int 0 0, Value.int 0 0, Value.int 3 0, Value.ref 240, Value.bool Bool.true, Value.int 181 0, Value.ref 241, Value.none, Value.ref 242, Value.ref 243, Value.ref 244, Value.int 497 0, Value.int 144 0, Value.str "/claim/cut.py" 498] }
noncomputable def o246 (P : Params) : Obj := { cls := Value.type "function", data := Data.func { name := "do_again", qualname := "Record.do_again", params := L2.defArgs Sh.s_Record_do_again, body := FuncBody.stmts (L2.defBody Sh.s_Record_do_again), scope := L2.defScope Sh.s_Record_do_again, globals := 3, closure := [], defaults := Value.none, kwdefaults := Value.none, pyModule := Value.str "stateheirs.record" 229, code := Value.ref 245 } }
noncomputable def o247 (P : Params) : Obj := { cls := Value.type "tuple", data := Data.seq #[Value.str "earlier" 500, Value.str "states" 501, Value.str "treaties" 502, Value.str "undone" 503] }
noncomputable def o248 (P : Params) : Obj := { cls := Value.type "dict", data := Data.dict #[{ hash := PyData.keyHash P "__module__", key := Value.str "__module__" 342, val := Value.str "stateheirs.record" 229 }, { hash := PyData.keyHash P "__firstlineno__", key := Value.str "__firstlineno__" 346, val := Value.int 54 345 }, { hash := PyData.keyHash P "__init__", key := Value.str "__init__" 353, val := Value.ref 133 }, { hash := PyData.keyHash P "begin", key := Value.str "begin" 359, val := Value.ref 138 }, { hash := PyData.keyHash P "has_state", key := Value.str "has_state" 367, val := Value.ref 145 }, { hash := PyData.keyHash P "had_state", key := Value.str "had_state" 375, val := Value.ref 152 }, { hash := PyData.keyHash P "has_treaty", key := Value.str "has_treaty" 383, val := Value.ref 159 }, { hash := PyData.keyHash P "is_full", key := Value.str "is_full" 390, val := Value.ref 166 }, { hash := PyData.keyHash P "who_is_there", key := Value.str "who_is_there" 400, val := Value.ref 173 }, { hash := PyData.keyHash P "total_debt", key := Value.str "total_debt" 406, val := Value.ref 178 }, { hash := PyData.keyHash P "who_is_bound", key := Value.str "who_is_bound" 417, val := Value.ref 185 }, { hash := PyData.keyHash P "line", key := Value.str "line" 427, val := Value.ref 192 }, { hash := PyData.keyHash P "ends_up_in", key := Value.str "ends_up_in" 435, val := Value.ref 199 }, { hash := PyData.keyHash P "heirs", key := Value.str "heirs" 445, val := Value.ref 206 }, { hash := PyData.keyHash P "part", key := Value.str "part" 459, val := Value.ref 213 }, { hash := PyData.keyHash P "take_up", key := Value.str "take_up" 471, val := Value.ref 220 }, { hash := PyData.keyHash P "copied_states", key := Value.str "copied_states" 477, val := Value.ref 225 }, { hash := PyData.keyHash P "keep_change", key := Value.str "keep_change" 485, val := Value.ref 232 }, { hash := PyData.keyHash P "take_back", key := Value.str "take_back" 492, val := Value.ref 239 }, { hash := PyData.keyHash P "do_again", key := Value.str "do_again" 499, val := Value.ref 246 }, { hash := PyData.keyHash P "__static_attributes__", key := Value.str "__static_attributes__" 504, val := Value.ref 247 }, { hash := PyData.keyHash P "__dict__", key := Value.str "__dict__" 506, val := Value.ref 250 }, { hash := PyData.keyHash P "__weakref__", key := Value.str "__weakref__" 508, val := Value.ref 251 }, { hash := PyData.keyHash P "__doc__", key := Value.str "__doc__" 509, val := Value.none }] 4 }
noncomputable def o249 (P : Params) : Obj := { cls := Value.type "type", data := Data.cls { name := "Record", bases := [Value.type "object"], mro := [Value.ref 249, Value.type "object"], ns := 248, qualname := "Record" }, slots := #[Option.none, Option.none, Option.some (Value.str "Record" 335), Option.some (Value.str "Record" 343), Option.some (Value.builtin "object.__new__"), Option.some (Value.bool Bool.true)] }
noncomputable def o250 (P : Params) : Obj := { cls := Value.type "getset_descriptor", data := Data.fields #[Value.str "__dict__" 505, Value.ref 249, Value.builtin "function.__dict__", Value.builtin "function.__dict__#set"] }
noncomputable def o251 (P : Params) : Obj := { cls := Value.type "getset_descriptor", data := Data.fields #[Value.str "__weakref__" 507, Value.ref 249, Value.builtin "ExceptionGroup.__weakref__", Value.none] }
noncomputable def o252 (P : Params) : Obj := { cls := Value.type "super", data := Data.fields #[Value.ref 249, Value.ref 249, Value.ref 249] }
noncomputable def o253 (P : Params) : Obj := { cls := Value.type "builtin_function_or_method", data := Data.fields #[Value.builtin "object.__init_subclass__", Value.ref 249] }
noncomputable def o254 (P : Params) : Obj := { cls := Value.type "tuple", data := Data.seq #[] }
noncomputable def o255 (P : Params) : Obj := { cls := Value.none, data := Data.fields #[] }
noncomputable def o256 (P : Params) : Obj := { cls := Value.type "tuple", data := Data.seq #[Value.str "record" 538, Value.str "n" 539, Value.str "t" 540] }
noncomputable def o257 (P : Params) : Obj := { cls := Value.type "tuple", data := Data.seq #[] }
noncomputable def o258 (P : Params) : Obj := { cls := Value.none, data := Data.func { name := "su_start", qualname := "su_start", params := L2.defArgs Sh.s_su_start, body := FuncBody.stmts (L2.defBody Sh.s_su_start), scope := L2.defScope Sh.s_su_start, globals := 0, closure := [], defaults := Value.none, kwdefaults := Value.none } }
noncomputable def o259 (P : Params) : Obj := { cls := Value.type "code", data := Data.fields #[Value.str "su_start" 535, Value.str "su_start" 536, Value.str "/claim/cut.py" 537, Value.int 155 0, Value.int 3 0, Value.int 0 0, Value.int 0 0, Value.int 3 0, Value.ref 254, Value.bool Bool.true, Value.int 181 0, Value.ref 255, Value.none, Value.ref 256, Value.ref 257, Value.ref 258, Value.int 541 0, Value.int 155 0, Value.str "/claim/cut.py" 542] }
noncomputable def o260 (P : Params) : Obj := { cls := Value.type "function", data := Data.func { name := "su_start", qualname := "su_start", params := L2.defArgs Sh.s_su_start, body := FuncBody.stmts (L2.defBody Sh.s_su_start), scope := L2.defScope Sh.s_su_start, globals := 3, closure := [], defaults := Value.none, kwdefaults := Value.none, pyModule := Value.str "stateheirs.changes" 533, code := Value.ref 259 } }
noncomputable def o261 (P : Params) : Obj := { cls := Value.type "tuple", data := Data.seq #[] }
noncomputable def o262 (P : Params) : Obj := { cls := Value.none, data := Data.fields #[] }
noncomputable def o263 (P : Params) : Obj := { cls := Value.type "tuple", data := Data.seq #[Value.str "record" 547, Value.str "i" 548, Value.str "t" 549, Value.str "state" 550] }
noncomputable def o264 (P : Params) : Obj := { cls := Value.type "tuple", data := Data.seq #[] }
noncomputable def o265 (P : Params) : Obj := { cls := Value.none, data := Data.func { name := "su_sign", qualname := "su_sign", params := L2.defArgs Sh.s_su_sign, body := FuncBody.stmts (L2.defBody Sh.s_su_sign), scope := L2.defScope Sh.s_su_sign, globals := 0, closure := [], defaults := Value.none, kwdefaults := Value.none } }
noncomputable def o266 (P : Params) : Obj := { cls := Value.type "code", data := Data.fields #[Value.str "su_sign" 544, Value.str "su_sign" 545, Value.str "/claim/cut.py" 546, Value.int 160 0, Value.int 3 0, Value.int 0 0, Value.int 0 0, Value.int 3 0, Value.ref 261, Value.bool Bool.true, Value.int 181 0, Value.ref 262, Value.none, Value.ref 263, Value.ref 264, Value.ref 265, Value.int 551 0, Value.int 160 0, Value.str "/claim/cut.py" 552] }
noncomputable def o267 (P : Params) : Obj := { cls := Value.type "function", data := Data.func { name := "su_sign", qualname := "su_sign", params := L2.defArgs Sh.s_su_sign, body := FuncBody.stmts (L2.defBody Sh.s_su_sign), scope := L2.defScope Sh.s_su_sign, globals := 3, closure := [], defaults := Value.none, kwdefaults := Value.none, pyModule := Value.str "stateheirs.changes" 533, code := Value.ref 266 } }
noncomputable def o268 (P : Params) : Obj := { cls := Value.type "tuple", data := Data.seq #[] }
noncomputable def o269 (P : Params) : Obj := { cls := Value.none, data := Data.fields #[] }
noncomputable def o270 (P : Params) : Obj := { cls := Value.type "tuple", data := Data.seq #[Value.str "record" 557, Value.str "i" 558, Value.str "t" 559, Value.str "state" 560] }
noncomputable def o271 (P : Params) : Obj := { cls := Value.type "tuple", data := Data.seq #[] }
noncomputable def o272 (P : Params) : Obj := { cls := Value.none, data := Data.func { name := "su_leave", qualname := "su_leave", params := L2.defArgs Sh.s_su_leave, body := FuncBody.stmts (L2.defBody Sh.s_su_leave), scope := L2.defScope Sh.s_su_leave, globals := 0, closure := [], defaults := Value.none, kwdefaults := Value.none } }
noncomputable def o273 (P : Params) : Obj := { cls := Value.type "code", data := Data.fields #[Value.str "su_leave" 554, Value.str "su_leave" 555, Value.str "/claim/cut.py" 556, Value.int 168 0, Value.int 3 0, Value.int 0 0, Value.int 0 0, Value.int 3 0, Value.ref 268, Value.bool Bool.true, Value.int 181 0, Value.ref 269, Value.none, Value.ref 270, Value.ref 271, Value.ref 272, Value.int 561 0, Value.int 168 0, Value.str "/claim/cut.py" 562] }
noncomputable def o274 (P : Params) : Obj := { cls := Value.type "function", data := Data.func { name := "su_leave", qualname := "su_leave", params := L2.defArgs Sh.s_su_leave, body := FuncBody.stmts (L2.defBody Sh.s_su_leave), scope := L2.defScope Sh.s_su_leave, globals := 3, closure := [], defaults := Value.none, kwdefaults := Value.none, pyModule := Value.str "stateheirs.changes" 533, code := Value.ref 273 } }
noncomputable def o275 (P : Params) : Obj := { cls := Value.type "tuple", data := Data.seq #[] }
noncomputable def o276 (P : Params) : Obj := { cls := Value.none, data := Data.fields #[] }
noncomputable def o277 (P : Params) : Obj := { cls := Value.type "tuple", data := Data.seq #[Value.str "record" 567, Value.str "i" 568, Value.str "x" 569, Value.str "state" 570] }
noncomputable def o278 (P : Params) : Obj := { cls := Value.type "tuple", data := Data.seq #[] }
noncomputable def o279 (P : Params) : Obj := { cls := Value.none, data := Data.func { name := "su_owe", qualname := "su_owe", params := L2.defArgs Sh.s_su_owe, body := FuncBody.stmts (L2.defBody Sh.s_su_owe), scope := L2.defScope Sh.s_su_owe, globals := 0, closure := [], defaults := Value.none, kwdefaults := Value.none } }
noncomputable def o280 (P : Params) : Obj := { cls := Value.type "code", data := Data.fields #[Value.str "su_owe" 564, Value.str "su_owe" 565, Value.str "/claim/cut.py" 566, Value.int 176 0, Value.int 3 0, Value.int 0 0, Value.int 0 0, Value.int 3 0, Value.ref 275, Value.bool Bool.true, Value.int 181 0, Value.ref 276, Value.none, Value.ref 277, Value.ref 278, Value.ref 279, Value.int 571 0, Value.int 176 0, Value.str "/claim/cut.py" 572] }
noncomputable def o281 (P : Params) : Obj := { cls := Value.type "function", data := Data.func { name := "su_owe", qualname := "su_owe", params := L2.defArgs Sh.s_su_owe, body := FuncBody.stmts (L2.defBody Sh.s_su_owe), scope := L2.defScope Sh.s_su_owe, globals := 3, closure := [], defaults := Value.none, kwdefaults := Value.none, pyModule := Value.str "stateheirs.changes" 533, code := Value.ref 280 } }
noncomputable def o282 (P : Params) : Obj := { cls := Value.type "tuple", data := Data.seq #[] }
noncomputable def o283 (P : Params) : Obj := { cls := Value.none, data := Data.fields #[] }
noncomputable def o284 (P : Params) : Obj := { cls := Value.type "tuple", data := Data.seq #[Value.str "record" 577, Value.str "i" 578, Value.str "x" 579, Value.str "state" 580] }
noncomputable def o285 (P : Params) : Obj := { cls := Value.type "tuple", data := Data.seq #[] }
noncomputable def o286 (P : Params) : Obj := { cls := Value.none, data := Data.func { name := "su_pay", qualname := "su_pay", params := L2.defArgs Sh.s_su_pay, body := FuncBody.stmts (L2.defBody Sh.s_su_pay), scope := L2.defScope Sh.s_su_pay, globals := 0, closure := [], defaults := Value.none, kwdefaults := Value.none } }
noncomputable def o287 (P : Params) : Obj := { cls := Value.type "code", data := Data.fields #[Value.str "su_pay" 574, Value.str "su_pay" 575, Value.str "/claim/cut.py" 576, Value.int 186 0, Value.int 3 0, Value.int 0 0, Value.int 0 0, Value.int 3 0, Value.ref 282, Value.bool Bool.true, Value.int 181 0, Value.ref 283, Value.none, Value.ref 284, Value.ref 285, Value.ref 286, Value.int 581 0, Value.int 186 0, Value.str "/claim/cut.py" 582] }
noncomputable def o288 (P : Params) : Obj := { cls := Value.type "function", data := Data.func { name := "su_pay", qualname := "su_pay", params := L2.defArgs Sh.s_su_pay, body := FuncBody.stmts (L2.defBody Sh.s_su_pay), scope := L2.defScope Sh.s_su_pay, globals := 3, closure := [], defaults := Value.none, kwdefaults := Value.none, pyModule := Value.str "stateheirs.changes" 533, code := Value.ref 287 } }
noncomputable def o289 (P : Params) : Obj := { cls := Value.type "tuple", data := Data.seq #[] }
noncomputable def o290 (P : Params) : Obj := { cls := Value.none, data := Data.fields #[] }
noncomputable def o291 (P : Params) : Obj := { cls := Value.type "tuple", data := Data.seq #[Value.str "record" 587, Value.str "i" 588, Value.str "mode" 589, Value.str "p" 590, Value.str "q" 591] }
noncomputable def o292 (P : Params) : Obj := { cls := Value.type "tuple", data := Data.seq #[] }
noncomputable def o293 (P : Params) : Obj := { cls := Value.none, data := Data.func { name := "su_part", qualname := "su_part", params := L2.defArgs Sh.s_su_part, body := FuncBody.stmts (L2.defBody Sh.s_su_part), scope := L2.defScope Sh.s_su_part, globals := 0, closure := [], defaults := Value.none, kwdefaults := Value.none } }
noncomputable def o294 (P : Params) : Obj := { cls := Value.type "code", data := Data.fields #[Value.str "su_part" 584, Value.str "su_part" 585, Value.str "/claim/cut.py" 586, Value.int 196 0, Value.int 5 0, Value.int 0 0, Value.int 0 0, Value.int 3 0, Value.ref 289, Value.bool Bool.true, Value.int 181 0, Value.ref 290, Value.none, Value.ref 291, Value.ref 292, Value.ref 293, Value.int 592 0, Value.int 196 0, Value.str "/claim/cut.py" 593] }
noncomputable def o295 (P : Params) : Obj := { cls := Value.type "function", data := Data.func { name := "su_part", qualname := "su_part", params := L2.defArgs Sh.s_su_part, body := FuncBody.stmts (L2.defBody Sh.s_su_part), scope := L2.defScope Sh.s_su_part, globals := 3, closure := [], defaults := Value.none, kwdefaults := Value.none, pyModule := Value.str "stateheirs.changes" 533, code := Value.ref 294 } }
noncomputable def o296 (P : Params) : Obj := { cls := Value.type "tuple", data := Data.seq #[] }
noncomputable def o297 (P : Params) : Obj := { cls := Value.none, data := Data.fields #[] }
noncomputable def o298 (P : Params) : Obj := { cls := Value.type "tuple", data := Data.seq #[Value.str "record" 598, Value.str "i" 599, Value.str "j" 600, Value.str "mode" 601] }
noncomputable def o299 (P : Params) : Obj := { cls := Value.type "tuple", data := Data.seq #[] }
noncomputable def o300 (P : Params) : Obj := { cls := Value.none, data := Data.func { name := "su_join", qualname := "su_join", params := L2.defArgs Sh.s_su_join, body := FuncBody.stmts (L2.defBody Sh.s_su_join), scope := L2.defScope Sh.s_su_join, globals := 0, closure := [], defaults := Value.none, kwdefaults := Value.none } }
noncomputable def o301 (P : Params) : Obj := { cls := Value.type "code", data := Data.fields #[Value.str "su_join" 595, Value.str "su_join" 596, Value.str "/claim/cut.py" 597, Value.int 204 0, Value.int 4 0, Value.int 0 0, Value.int 0 0, Value.int 3 0, Value.ref 296, Value.bool Bool.true, Value.int 181 0, Value.ref 297, Value.none, Value.ref 298, Value.ref 299, Value.ref 300, Value.int 602 0, Value.int 204 0, Value.str "/claim/cut.py" 603] }
noncomputable def o302 (P : Params) : Obj := { cls := Value.type "function", data := Data.func { name := "su_join", qualname := "su_join", params := L2.defArgs Sh.s_su_join, body := FuncBody.stmts (L2.defBody Sh.s_su_join), scope := L2.defScope Sh.s_su_join, globals := 3, closure := [], defaults := Value.none, kwdefaults := Value.none, pyModule := Value.str "stateheirs.changes" 533, code := Value.ref 301 } }
noncomputable def o303 (P : Params) : Obj := { cls := Value.type "tuple", data := Data.seq #[] }
noncomputable def o304 (P : Params) : Obj := { cls := Value.none, data := Data.fields #[] }
noncomputable def o305 (P : Params) : Obj := { cls := Value.type "tuple", data := Data.seq #[Value.str "record" 608, Value.str "i" 609, Value.str "t" 610, Value.str "state" 611] }
noncomputable def o306 (P : Params) : Obj := { cls := Value.type "tuple", data := Data.seq #[] }
noncomputable def o307 (P : Params) : Obj := { cls := Value.none, data := Data.func { name := "su_follow", qualname := "su_follow", params := L2.defArgs Sh.s_su_follow, body := FuncBody.stmts (L2.defBody Sh.s_su_follow), scope := L2.defScope Sh.s_su_follow, globals := 0, closure := [], defaults := Value.none, kwdefaults := Value.none } }
noncomputable def o308 (P : Params) : Obj := { cls := Value.type "code", data := Data.fields #[Value.str "su_follow" 605, Value.str "su_follow" 606, Value.str "/claim/cut.py" 607, Value.int 211 0, Value.int 3 0, Value.int 0 0, Value.int 0 0, Value.int 3 0, Value.ref 303, Value.bool Bool.true, Value.int 181 0, Value.ref 304, Value.none, Value.ref 305, Value.ref 306, Value.ref 307, Value.int 612 0, Value.int 211 0, Value.str "/claim/cut.py" 613] }
noncomputable def o309 (P : Params) : Obj := { cls := Value.type "function", data := Data.func { name := "su_follow", qualname := "su_follow", params := L2.defArgs Sh.s_su_follow, body := FuncBody.stmts (L2.defBody Sh.s_su_follow), scope := L2.defScope Sh.s_su_follow, globals := 3, closure := [], defaults := Value.none, kwdefaults := Value.none, pyModule := Value.str "stateheirs.changes" 533, code := Value.ref 308 } }
noncomputable def o310 (P : Params) : Obj := { cls := Value.type "tuple", data := Data.seq #[] }
noncomputable def o311 (P : Params) : Obj := { cls := Value.none, data := Data.fields #[] }
noncomputable def o312 (P : Params) : Obj := { cls := Value.type "tuple", data := Data.seq #[Value.str "number" 620] }
noncomputable def o313 (P : Params) : Obj := { cls := Value.type "tuple", data := Data.seq #[] }
noncomputable def o314 (P : Params) : Obj := { cls := Value.none, data := Data.func { name := "one_more", qualname := "one_more", params := L2.defArgs Sh.s_one_more, body := FuncBody.stmts (L2.defBody Sh.s_one_more), scope := L2.defScope Sh.s_one_more, globals := 0, closure := [], defaults := Value.none, kwdefaults := Value.none } }
noncomputable def o315 (P : Params) : Obj := { cls := Value.type "code", data := Data.fields #[Value.str "one_more" 617, Value.str "one_more" 618, Value.str "/claim/cut.py" 619, Value.int 222 0, Value.int 1 0, Value.int 0 0, Value.int 0 0, Value.int 3 0, Value.ref 310, Value.bool Bool.true, Value.int 181 0, Value.ref 311, Value.none, Value.ref 312, Value.ref 313, Value.ref 314, Value.int 621 0, Value.int 222 0, Value.str "/claim/cut.py" 622] }
noncomputable def o316 (P : Params) : Obj := { cls := Value.type "function", data := Data.func { name := "one_more", qualname := "one_more", params := L2.defArgs Sh.s_one_more, body := FuncBody.stmts (L2.defBody Sh.s_one_more), scope := L2.defScope Sh.s_one_more, globals := 3, closure := [], defaults := Value.none, kwdefaults := Value.none, pyModule := Value.str "stateheirs.descent" 615, code := Value.ref 315 } }
noncomputable def o317 (P : Params) : Obj := { cls := Value.type "tuple", data := Data.seq #[] }
noncomputable def o318 (P : Params) : Obj := { cls := Value.none, data := Data.fields #[] }
noncomputable def o319 (P : Params) : Obj := { cls := Value.type "tuple", data := Data.seq #[Value.str "record" 627, Value.str "i" 628, Value.str "state" 629] }
noncomputable def o320 (P : Params) : Obj := { cls := Value.type "tuple", data := Data.seq #[] }
noncomputable def o321 (P : Params) : Obj := { cls := Value.none, data := Data.func { name := "su_from", qualname := "su_from", params := L2.defArgs Sh.s_su_from, body := FuncBody.stmts (L2.defBody Sh.s_su_from), scope := L2.defScope Sh.s_su_from, globals := 0, closure := [], defaults := Value.none, kwdefaults := Value.none } }
noncomputable def o322 (P : Params) : Obj := { cls := Value.type "code", data := Data.fields #[Value.str "su_from" 624, Value.str "su_from" 625, Value.str "/claim/cut.py" 626, Value.int 224 0, Value.int 2 0, Value.int 0 0, Value.int 0 0, Value.int 3 0, Value.ref 317, Value.bool Bool.true, Value.int 181 0, Value.ref 318, Value.none, Value.ref 319, Value.ref 320, Value.ref 321, Value.int 630 0, Value.int 224 0, Value.str "/claim/cut.py" 631] }
noncomputable def o323 (P : Params) : Obj := { cls := Value.type "function", data := Data.func { name := "su_from", qualname := "su_from", params := L2.defArgs Sh.s_su_from, body := FuncBody.stmts (L2.defBody Sh.s_su_from), scope := L2.defScope Sh.s_su_from, globals := 3, closure := [], defaults := Value.none, kwdefaults := Value.none, pyModule := Value.str "stateheirs.descent" 615, code := Value.ref 322 } }
noncomputable def o324 (P : Params) : Obj := { cls := Value.type "tuple", data := Data.seq #[] }
noncomputable def o325 (P : Params) : Obj := { cls := Value.none, data := Data.fields #[] }
noncomputable def o326 (P : Params) : Obj := { cls := Value.type "tuple", data := Data.seq #[Value.str "record" 636, Value.str "i" 637, Value.str "many" 638] }
noncomputable def o327 (P : Params) : Obj := { cls := Value.type "tuple", data := Data.seq #[] }
noncomputable def o328 (P : Params) : Obj := { cls := Value.none, data := Data.func { name := "su_line", qualname := "su_line", params := L2.defArgs Sh.s_su_line, body := FuncBody.stmts (L2.defBody Sh.s_su_line), scope := L2.defScope Sh.s_su_line, globals := 0, closure := [], defaults := Value.none, kwdefaults := Value.none } }
noncomputable def o329 (P : Params) : Obj := { cls := Value.type "code", data := Data.fields #[Value.str "su_line" 633, Value.str "su_line" 634, Value.str "/claim/cut.py" 635, Value.int 229 0, Value.int 2 0, Value.int 0 0, Value.int 0 0, Value.int 3 0, Value.ref 324, Value.bool Bool.true, Value.int 181 0, Value.ref 325, Value.none, Value.ref 326, Value.ref 327, Value.ref 328, Value.int 639 0, Value.int 229 0, Value.str "/claim/cut.py" 640] }
noncomputable def o330 (P : Params) : Obj := { cls := Value.type "function", data := Data.func { name := "su_line", qualname := "su_line", params := L2.defArgs Sh.s_su_line, body := FuncBody.stmts (L2.defBody Sh.s_su_line), scope := L2.defScope Sh.s_su_line, globals := 3, closure := [], defaults := Value.none, kwdefaults := Value.none, pyModule := Value.str "stateheirs.descent" 615, code := Value.ref 329 } }
noncomputable def o331 (P : Params) : Obj := { cls := Value.type "tuple", data := Data.seq #[] }
noncomputable def o332 (P : Params) : Obj := { cls := Value.none, data := Data.fields #[] }
noncomputable def o333 (P : Params) : Obj := { cls := Value.type "tuple", data := Data.seq #[Value.str "record" 645, Value.str "i" 646, Value.str "many" 647] }
noncomputable def o334 (P : Params) : Obj := { cls := Value.type "tuple", data := Data.seq #[] }
noncomputable def o335 (P : Params) : Obj := { cls := Value.none, data := Data.func { name := "su_heirs", qualname := "su_heirs", params := L2.defArgs Sh.s_su_heirs, body := FuncBody.stmts (L2.defBody Sh.s_su_heirs), scope := L2.defScope Sh.s_su_heirs, globals := 0, closure := [], defaults := Value.none, kwdefaults := Value.none } }
noncomputable def o336 (P : Params) : Obj := { cls := Value.type "code", data := Data.fields #[Value.str "su_heirs" 642, Value.str "su_heirs" 643, Value.str "/claim/cut.py" 644, Value.int 234 0, Value.int 2 0, Value.int 0 0, Value.int 0 0, Value.int 3 0, Value.ref 331, Value.bool Bool.true, Value.int 181 0, Value.ref 332, Value.none, Value.ref 333, Value.ref 334, Value.ref 335, Value.int 648 0, Value.int 234 0, Value.str "/claim/cut.py" 649] }
noncomputable def o337 (P : Params) : Obj := { cls := Value.type "function", data := Data.func { name := "su_heirs", qualname := "su_heirs", params := L2.defArgs Sh.s_su_heirs, body := FuncBody.stmts (L2.defBody Sh.s_su_heirs), scope := L2.defScope Sh.s_su_heirs, globals := 3, closure := [], defaults := Value.none, kwdefaults := Value.none, pyModule := Value.str "stateheirs.descent" 615, code := Value.ref 336 } }
noncomputable def o338 (P : Params) : Obj := { cls := Value.type "tuple", data := Data.seq #[] }
noncomputable def o339 (P : Params) : Obj := { cls := Value.none, data := Data.fields #[] }
noncomputable def o340 (P : Params) : Obj := { cls := Value.type "tuple", data := Data.seq #[Value.str "record" 654, Value.str "i" 655, Value.str "j" 656] }
noncomputable def o341 (P : Params) : Obj := { cls := Value.type "tuple", data := Data.seq #[] }
noncomputable def o342 (P : Params) : Obj := { cls := Value.none, data := Data.func { name := "su_kin", qualname := "su_kin", params := L2.defArgs Sh.s_su_kin, body := FuncBody.stmts (L2.defBody Sh.s_su_kin), scope := L2.defScope Sh.s_su_kin, globals := 0, closure := [], defaults := Value.none, kwdefaults := Value.none } }
noncomputable def o343 (P : Params) : Obj := { cls := Value.type "code", data := Data.fields #[Value.str "su_kin" 651, Value.str "su_kin" 652, Value.str "/claim/cut.py" 653, Value.int 239 0, Value.int 3 0, Value.int 0 0, Value.int 0 0, Value.int 3 0, Value.ref 338, Value.bool Bool.true, Value.int 181 0, Value.ref 339, Value.none, Value.ref 340, Value.ref 341, Value.ref 342, Value.int 657 0, Value.int 239 0, Value.str "/claim/cut.py" 658] }
noncomputable def o344 (P : Params) : Obj := { cls := Value.type "function", data := Data.func { name := "su_kin", qualname := "su_kin", params := L2.defArgs Sh.s_su_kin, body := FuncBody.stmts (L2.defBody Sh.s_su_kin), scope := L2.defScope Sh.s_su_kin, globals := 3, closure := [], defaults := Value.none, kwdefaults := Value.none, pyModule := Value.str "stateheirs.descent" 615, code := Value.ref 343 } }
noncomputable def o345 (P : Params) : Obj := { cls := Value.type "tuple", data := Data.seq #[] }
noncomputable def o346 (P : Params) : Obj := { cls := Value.none, data := Data.fields #[] }
noncomputable def o347 (P : Params) : Obj := { cls := Value.type "tuple", data := Data.seq #[Value.str "record" 665, Value.str "i" 666, Value.str "state" 667] }
noncomputable def o348 (P : Params) : Obj := { cls := Value.type "tuple", data := Data.seq #[] }
noncomputable def o349 (P : Params) : Obj := { cls := Value.none, data := Data.func { name := "su_treaties", qualname := "su_treaties", params := L2.defArgs Sh.s_su_treaties, body := FuncBody.stmts (L2.defBody Sh.s_su_treaties), scope := L2.defScope Sh.s_su_treaties, globals := 0, closure := [], defaults := Value.none, kwdefaults := Value.none } }
noncomputable def o350 (P : Params) : Obj := { cls := Value.type "code", data := Data.fields #[Value.str "su_treaties" 662, Value.str "su_treaties" 663, Value.str "/claim/cut.py" 664, Value.int 244 0, Value.int 2 0, Value.int 0 0, Value.int 0 0, Value.int 3 0, Value.ref 345, Value.bool Bool.true, Value.int 181 0, Value.ref 346, Value.none, Value.ref 347, Value.ref 348, Value.ref 349, Value.int 668 0, Value.int 244 0, Value.str "/claim/cut.py" 669] }
noncomputable def o351 (P : Params) : Obj := { cls := Value.type "function", data := Data.func { name := "su_treaties", qualname := "su_treaties", params := L2.defArgs Sh.s_su_treaties, body := FuncBody.stmts (L2.defBody Sh.s_su_treaties), scope := L2.defScope Sh.s_su_treaties, globals := 3, closure := [], defaults := Value.none, kwdefaults := Value.none, pyModule := Value.str "stateheirs.questions" 660, code := Value.ref 350 } }
noncomputable def o352 (P : Params) : Obj := { cls := Value.type "tuple", data := Data.seq #[] }
noncomputable def o353 (P : Params) : Obj := { cls := Value.none, data := Data.fields #[] }
noncomputable def o354 (P : Params) : Obj := { cls := Value.type "tuple", data := Data.seq #[Value.str "record" 674, Value.str "t" 675, Value.str "many" 676] }
noncomputable def o355 (P : Params) : Obj := { cls := Value.type "tuple", data := Data.seq #[] }
noncomputable def o356 (P : Params) : Obj := { cls := Value.none, data := Data.func { name := "su_bound", qualname := "su_bound", params := L2.defArgs Sh.s_su_bound, body := FuncBody.stmts (L2.defBody Sh.s_su_bound), scope := L2.defScope Sh.s_su_bound, globals := 0, closure := [], defaults := Value.none, kwdefaults := Value.none } }
noncomputable def o357 (P : Params) : Obj := { cls := Value.type "code", data := Data.fields #[Value.str "su_bound" 671, Value.str "su_bound" 672, Value.str "/claim/cut.py" 673, Value.int 249 0, Value.int 2 0, Value.int 0 0, Value.int 0 0, Value.int 3 0, Value.ref 352, Value.bool Bool.true, Value.int 181 0, Value.ref 353, Value.none, Value.ref 354, Value.ref 355, Value.ref 356, Value.int 677 0, Value.int 249 0, Value.str "/claim/cut.py" 678] }
noncomputable def o358 (P : Params) : Obj := { cls := Value.type "function", data := Data.func { name := "su_bound", qualname := "su_bound", params := L2.defArgs Sh.s_su_bound, body := FuncBody.stmts (L2.defBody Sh.s_su_bound), scope := L2.defScope Sh.s_su_bound, globals := 3, closure := [], defaults := Value.none, kwdefaults := Value.none, pyModule := Value.str "stateheirs.questions" 660, code := Value.ref 357 } }
noncomputable def o359 (P : Params) : Obj := { cls := Value.type "tuple", data := Data.seq #[] }
noncomputable def o360 (P : Params) : Obj := { cls := Value.none, data := Data.fields #[] }
noncomputable def o361 (P : Params) : Obj := { cls := Value.type "tuple", data := Data.seq #[Value.str "record" 683, Value.str "i" 684, Value.str "j" 685, Value.str "both" 686] }
noncomputable def o362 (P : Params) : Obj := { cls := Value.type "tuple", data := Data.seq #[] }
noncomputable def o363 (P : Params) : Obj := { cls := Value.none, data := Data.func { name := "su_common", qualname := "su_common", params := L2.defArgs Sh.s_su_common, body := FuncBody.stmts (L2.defBody Sh.s_su_common), scope := L2.defScope Sh.s_su_common, globals := 0, closure := [], defaults := Value.none, kwdefaults := Value.none } }
noncomputable def o364 (P : Params) : Obj := { cls := Value.type "code", data := Data.fields #[Value.str "su_common" 680, Value.str "su_common" 681, Value.str "/claim/cut.py" 682, Value.int 254 0, Value.int 3 0, Value.int 0 0, Value.int 0 0, Value.int 3 0, Value.ref 359, Value.bool Bool.true, Value.int 181 0, Value.ref 360, Value.none, Value.ref 361, Value.ref 362, Value.ref 363, Value.int 687 0, Value.int 254 0, Value.str "/claim/cut.py" 688] }
noncomputable def o365 (P : Params) : Obj := { cls := Value.type "function", data := Data.func { name := "su_common", qualname := "su_common", params := L2.defArgs Sh.s_su_common, body := FuncBody.stmts (L2.defBody Sh.s_su_common), scope := L2.defScope Sh.s_su_common, globals := 3, closure := [], defaults := Value.none, kwdefaults := Value.none, pyModule := Value.str "stateheirs.questions" 660, code := Value.ref 364 } }
noncomputable def o366 (P : Params) : Obj := { cls := Value.type "tuple", data := Data.seq #[] }
noncomputable def o367 (P : Params) : Obj := { cls := Value.none, data := Data.fields #[] }
noncomputable def o368 (P : Params) : Obj := { cls := Value.type "tuple", data := Data.seq #[Value.str "record" 693, Value.str "i" 694] }
noncomputable def o369 (P : Params) : Obj := { cls := Value.type "tuple", data := Data.seq #[] }
noncomputable def o370 (P : Params) : Obj := { cls := Value.none, data := Data.func { name := "su_debt", qualname := "su_debt", params := L2.defArgs Sh.s_su_debt, body := FuncBody.stmts (L2.defBody Sh.s_su_debt), scope := L2.defScope Sh.s_su_debt, globals := 0, closure := [], defaults := Value.none, kwdefaults := Value.none } }
noncomputable def o371 (P : Params) : Obj := { cls := Value.type "code", data := Data.fields #[Value.str "su_debt" 690, Value.str "su_debt" 691, Value.str "/claim/cut.py" 692, Value.int 261 0, Value.int 2 0, Value.int 0 0, Value.int 0 0, Value.int 3 0, Value.ref 366, Value.bool Bool.true, Value.int 181 0, Value.ref 367, Value.none, Value.ref 368, Value.ref 369, Value.ref 370, Value.int 695 0, Value.int 261 0, Value.str "/claim/cut.py" 696] }
noncomputable def o372 (P : Params) : Obj := { cls := Value.type "function", data := Data.func { name := "su_debt", qualname := "su_debt", params := L2.defArgs Sh.s_su_debt, body := FuncBody.stmts (L2.defBody Sh.s_su_debt), scope := L2.defScope Sh.s_su_debt, globals := 3, closure := [], defaults := Value.none, kwdefaults := Value.none, pyModule := Value.str "stateheirs.questions" 660, code := Value.ref 371 } }
noncomputable def o373 (P : Params) : Obj := { cls := Value.type "tuple", data := Data.seq #[] }
noncomputable def o374 (P : Params) : Obj := { cls := Value.none, data := Data.fields #[] }
noncomputable def o375 (P : Params) : Obj := { cls := Value.type "tuple", data := Data.seq #[Value.str "record" 701] }
noncomputable def o376 (P : Params) : Obj := { cls := Value.type "tuple", data := Data.seq #[] }
noncomputable def o377 (P : Params) : Obj := { cls := Value.none, data := Data.func { name := "su_total", qualname := "su_total", params := L2.defArgs Sh.s_su_total, body := FuncBody.stmts (L2.defBody Sh.s_su_total), scope := L2.defScope Sh.s_su_total, globals := 0, closure := [], defaults := Value.none, kwdefaults := Value.none } }
noncomputable def o378 (P : Params) : Obj := { cls := Value.type "code", data := Data.fields #[Value.str "su_total" 698, Value.str "su_total" 699, Value.str "/claim/cut.py" 700, Value.int 265 0, Value.int 1 0, Value.int 0 0, Value.int 0 0, Value.int 3 0, Value.ref 373, Value.bool Bool.true, Value.int 181 0, Value.ref 374, Value.none, Value.ref 375, Value.ref 376, Value.ref 377, Value.int 702 0, Value.int 265 0, Value.str "/claim/cut.py" 703] }
noncomputable def o379 (P : Params) : Obj := { cls := Value.type "function", data := Data.func { name := "su_total", qualname := "su_total", params := L2.defArgs Sh.s_su_total, body := FuncBody.stmts (L2.defBody Sh.s_su_total), scope := L2.defScope Sh.s_su_total, globals := 3, closure := [], defaults := Value.none, kwdefaults := Value.none, pyModule := Value.str "stateheirs.questions" 660, code := Value.ref 378 } }
noncomputable def o380 (P : Params) : Obj := { cls := Value.type "tuple", data := Data.seq #[] }
noncomputable def o381 (P : Params) : Obj := { cls := Value.none, data := Data.fields #[] }
noncomputable def o382 (P : Params) : Obj := { cls := Value.type "tuple", data := Data.seq #[Value.str "record" 708, Value.str "t" 709] }
noncomputable def o383 (P : Params) : Obj := { cls := Value.type "tuple", data := Data.seq #[] }
noncomputable def o384 (P : Params) : Obj := { cls := Value.none, data := Data.func { name := "su_whole", qualname := "su_whole", params := L2.defArgs Sh.s_su_whole, body := FuncBody.stmts (L2.defBody Sh.s_su_whole), scope := L2.defScope Sh.s_su_whole, globals := 0, closure := [], defaults := Value.none, kwdefaults := Value.none } }
noncomputable def o385 (P : Params) : Obj := { cls := Value.type "code", data := Data.fields #[Value.str "su_whole" 705, Value.str "su_whole" 706, Value.str "/claim/cut.py" 707, Value.int 267 0, Value.int 2 0, Value.int 0 0, Value.int 0 0, Value.int 3 0, Value.ref 380, Value.bool Bool.true, Value.int 181 0, Value.ref 381, Value.none, Value.ref 382, Value.ref 383, Value.ref 384, Value.int 710 0, Value.int 267 0, Value.str "/claim/cut.py" 711] }
noncomputable def o386 (P : Params) : Obj := { cls := Value.type "function", data := Data.func { name := "su_whole", qualname := "su_whole", params := L2.defArgs Sh.s_su_whole, body := FuncBody.stmts (L2.defBody Sh.s_su_whole), scope := L2.defScope Sh.s_su_whole, globals := 3, closure := [], defaults := Value.none, kwdefaults := Value.none, pyModule := Value.str "stateheirs.questions" 660, code := Value.ref 385 } }
noncomputable def o387 (P : Params) : Obj := { cls := Value.type "tuple", data := Data.seq #[] }
noncomputable def o388 (P : Params) : Obj := { cls := Value.none, data := Data.fields #[] }
noncomputable def o389 (P : Params) : Obj := { cls := Value.type "tuple", data := Data.seq #[Value.str "record" 716, Value.str "i" 717, Value.str "state" 718, Value.str "could" 719] }
noncomputable def o390 (P : Params) : Obj := { cls := Value.type "tuple", data := Data.seq #[] }
noncomputable def o391 (P : Params) : Obj := { cls := Value.none, data := Data.func { name := "su_could", qualname := "su_could", params := L2.defArgs Sh.s_su_could, body := FuncBody.stmts (L2.defBody Sh.s_su_could), scope := L2.defScope Sh.s_su_could, globals := 0, closure := [], defaults := Value.none, kwdefaults := Value.none } }
noncomputable def o392 (P : Params) : Obj := { cls := Value.type "code", data := Data.fields #[Value.str "su_could" 713, Value.str "su_could" 714, Value.str "/claim/cut.py" 715, Value.int 271 0, Value.int 2 0, Value.int 0 0, Value.int 0 0, Value.int 3 0, Value.ref 387, Value.bool Bool.true, Value.int 181 0, Value.ref 388, Value.none, Value.ref 389, Value.ref 390, Value.ref 391, Value.int 720 0, Value.int 271 0, Value.str "/claim/cut.py" 721] }
noncomputable def o393 (P : Params) : Obj := { cls := Value.type "function", data := Data.func { name := "su_could", qualname := "su_could", params := L2.defArgs Sh.s_su_could, body := FuncBody.stmts (L2.defBody Sh.s_su_could), scope := L2.defScope Sh.s_su_could, globals := 3, closure := [], defaults := Value.none, kwdefaults := Value.none, pyModule := Value.str "stateheirs.questions" 660, code := Value.ref 392 } }
noncomputable def o394 (P : Params) : Obj := { cls := Value.type "tuple", data := Data.seq #[] }
noncomputable def o395 (P : Params) : Obj := { cls := Value.none, data := Data.fields #[] }
noncomputable def o396 (P : Params) : Obj := { cls := Value.type "tuple", data := Data.seq #[Value.str "record" 726, Value.str "i" 727, Value.str "p" 728, Value.str "q" 729, Value.str "owes" 730, Value.str "kept" 731] }
noncomputable def o397 (P : Params) : Obj := { cls := Value.type "tuple", data := Data.seq #[] }
noncomputable def o398 (P : Params) : Obj := { cls := Value.none, data := Data.func { name := "su_would", qualname := "su_would", params := L2.defArgs Sh.s_su_would, body := FuncBody.stmts (L2.defBody Sh.s_su_would), scope := L2.defScope Sh.s_su_would, globals := 0, closure := [], defaults := Value.none, kwdefaults := Value.none } }
noncomputable def o399 (P : Params) : Obj := { cls := Value.type "code", data := Data.fields #[Value.str "su_would" 723, Value.str "su_would" 724, Value.str "/claim/cut.py" 725, Value.int 277 0, Value.int 4 0, Value.int 0 0, Value.int 0 0, Value.int 3 0, Value.ref 394, Value.bool Bool.true, Value.int 181 0, Value.ref 395, Value.none, Value.ref 396, Value.ref 397, Value.ref 398, Value.int 732 0, Value.int 277 0, Value.str "/claim/cut.py" 733] }
noncomputable def o400 (P : Params) : Obj := { cls := Value.type "function", data := Data.func { name := "su_would", qualname := "su_would", params := L2.defArgs Sh.s_su_would, body := FuncBody.stmts (L2.defBody Sh.s_su_would), scope := L2.defScope Sh.s_su_would, globals := 3, closure := [], defaults := Value.none, kwdefaults := Value.none, pyModule := Value.str "stateheirs.questions" 660, code := Value.ref 399 } }
noncomputable def o401 (P : Params) : Obj := { cls := Value.type "tuple", data := Data.seq #[] }
noncomputable def o402 (P : Params) : Obj := { cls := Value.none, data := Data.fields #[] }
noncomputable def o403 (P : Params) : Obj := { cls := Value.type "tuple", data := Data.seq #[Value.str "record" 738] }
noncomputable def o404 (P : Params) : Obj := { cls := Value.type "tuple", data := Data.seq #[] }
noncomputable def o405 (P : Params) : Obj := { cls := Value.none, data := Data.func { name := "su_state", qualname := "su_state", params := L2.defArgs Sh.s_su_state, body := FuncBody.stmts (L2.defBody Sh.s_su_state), scope := L2.defScope Sh.s_su_state, globals := 0, closure := [], defaults := Value.none, kwdefaults := Value.none } }
noncomputable def o406 (P : Params) : Obj := { cls := Value.type "code", data := Data.fields #[Value.str "su_state" 735, Value.str "su_state" 736, Value.str "/claim/cut.py" 737, Value.int 285 0, Value.int 1 0, Value.int 0 0, Value.int 0 0, Value.int 3 0, Value.ref 401, Value.bool Bool.true, Value.int 181 0, Value.ref 402, Value.none, Value.ref 403, Value.ref 404, Value.ref 405, Value.int 739 0, Value.int 285 0, Value.str "/claim/cut.py" 740] }
noncomputable def o407 (P : Params) : Obj := { cls := Value.type "function", data := Data.func { name := "su_state", qualname := "su_state", params := L2.defArgs Sh.s_su_state, body := FuncBody.stmts (L2.defBody Sh.s_su_state), scope := L2.defScope Sh.s_su_state, globals := 3, closure := [], defaults := Value.none, kwdefaults := Value.none, pyModule := Value.str "stateheirs.questions" 660, code := Value.ref 406 } }
noncomputable def o408 (P : Params) : Obj := { cls := Value.type "tuple", data := Data.seq #[] }
noncomputable def o409 (P : Params) : Obj := { cls := Value.none, data := Data.fields #[] }
noncomputable def o410 (P : Params) : Obj := { cls := Value.type "tuple", data := Data.seq #[Value.str "record" 747] }
noncomputable def o411 (P : Params) : Obj := { cls := Value.type "tuple", data := Data.seq #[] }
noncomputable def o412 (P : Params) : Obj := { cls := Value.none, data := Data.func { name := "su_back", qualname := "su_back", params := L2.defArgs Sh.s_su_back, body := FuncBody.stmts (L2.defBody Sh.s_su_back), scope := L2.defScope Sh.s_su_back, globals := 0, closure := [], defaults := Value.none, kwdefaults := Value.none } }
noncomputable def o413 (P : Params) : Obj := { cls := Value.type "code", data := Data.fields #[Value.str "su_back" 744, Value.str "su_back" 745, Value.str "/claim/cut.py" 746, Value.int 288 0, Value.int 1 0, Value.int 0 0, Value.int 0 0, Value.int 3 0, Value.ref 408, Value.bool Bool.true, Value.int 181 0, Value.ref 409, Value.none, Value.ref 410, Value.ref 411, Value.ref 412, Value.int 748 0, Value.int 288 0, Value.str "/claim/cut.py" 749] }
noncomputable def o414 (P : Params) : Obj := { cls := Value.type "function", data := Data.func { name := "su_back", qualname := "su_back", params := L2.defArgs Sh.s_su_back, body := FuncBody.stmts (L2.defBody Sh.s_su_back), scope := L2.defScope Sh.s_su_back, globals := 3, closure := [], defaults := Value.none, kwdefaults := Value.none, pyModule := Value.str "stateheirs.taking_back" 742, code := Value.ref 413 } }
noncomputable def o415 (P : Params) : Obj := { cls := Value.type "tuple", data := Data.seq #[] }
noncomputable def o416 (P : Params) : Obj := { cls := Value.none, data := Data.fields #[] }
noncomputable def o417 (P : Params) : Obj := { cls := Value.type "tuple", data := Data.seq #[Value.str "record" 754] }
noncomputable def o418 (P : Params) : Obj := { cls := Value.type "tuple", data := Data.seq #[] }
noncomputable def o419 (P : Params) : Obj := { cls := Value.none, data := Data.func { name := "su_again", qualname := "su_again", params := L2.defArgs Sh.s_su_again, body := FuncBody.stmts (L2.defBody Sh.s_su_again), scope := L2.defScope Sh.s_su_again, globals := 0, closure := [], defaults := Value.none, kwdefaults := Value.none } }
noncomputable def o420 (P : Params) : Obj := { cls := Value.type "code", data := Data.fields #[Value.str "su_again" 751, Value.str "su_again" 752, Value.str "/claim/cut.py" 753, Value.int 293 0, Value.int 1 0, Value.int 0 0, Value.int 0 0, Value.int 3 0, Value.ref 415, Value.bool Bool.true, Value.int 181 0, Value.ref 416, Value.none, Value.ref 417, Value.ref 418, Value.ref 419, Value.int 755 0, Value.int 293 0, Value.str "/claim/cut.py" 756] }
noncomputable def o421 (P : Params) : Obj := { cls := Value.type "function", data := Data.func { name := "su_again", qualname := "su_again", params := L2.defArgs Sh.s_su_again, body := FuncBody.stmts (L2.defBody Sh.s_su_again), scope := L2.defScope Sh.s_su_again, globals := 3, closure := [], defaults := Value.none, kwdefaults := Value.none, pyModule := Value.str "stateheirs.taking_back" 742, code := Value.ref 420 } }
noncomputable def o422 (P : Params) : Obj := { cls := Value.type "tuple", data := Data.seq #[Value.int 2 760, Value.int 2 761, Value.int 2 762, Value.int 2 763, Value.int 2 764, Value.int 4 765, Value.int 3 766, Value.int 2 767, Value.int 1 768, Value.int 1 769, Value.int 2 770, Value.int 1 771, Value.int 0 772, Value.int 1 773, Value.int 1 774, Value.int 1 775, Value.int 2 776, Value.int 1 777, Value.int 1 778, Value.int 3 779, Value.int 0 780, Value.int 0 781, Value.int 0 782] }
noncomputable def o423 (P : Params) : Obj := { cls := Value.type "tuple", data := Data.seq #[] }
noncomputable def o424 (P : Params) : Obj := { cls := Value.none, data := Data.fields #[] }
noncomputable def o425 (P : Params) : Obj := { cls := Value.type "tuple", data := Data.seq #[Value.str "record" 793, Value.str "number" 794, Value.str "given" 795] }
noncomputable def o426 (P : Params) : Obj := { cls := Value.type "tuple", data := Data.seq #[] }
noncomputable def o427 (P : Params) : Obj := { cls := Value.none, data := Data.func { name := "make_change", qualname := "make_change", params := L2.defArgs Sh.s_make_change, body := FuncBody.stmts (L2.defBody Sh.s_make_change), scope := L2.defScope Sh.s_make_change, globals := 0, closure := [], defaults := Value.none, kwdefaults := Value.none } }
noncomputable def o428 (P : Params) : Obj := { cls := Value.type "code", data := Data.fields #[Value.str "make_change" 790, Value.str "make_change" 791, Value.str "/claim/cut.py" 792, Value.int 303 0, Value.int 3 0, Value.int 0 0, Value.int 0 0, Value.int 3 0, Value.ref 423, Value.bool Bool.true, Value.int 181 0, Value.ref 424, Value.none, Value.ref 425, Value.ref 426, Value.ref 427, Value.int 796 0, Value.int 303 0, Value.str "/claim/cut.py" 797] }
noncomputable def o429 (P : Params) : Obj := { cls := Value.type "function", data := Data.func { name := "make_change", qualname := "make_change", params := L2.defArgs Sh.s_make_change, body := FuncBody.stmts (L2.defBody Sh.s_make_change), scope := L2.defScope Sh.s_make_change, globals := 3, closure := [], defaults := Value.none, kwdefaults := Value.none, pyModule := Value.str "stateheirs.states" 758, code := Value.ref 428 } }
noncomputable def o430 (P : Params) : Obj := { cls := Value.type "tuple", data := Data.seq #[] }
noncomputable def o431 (P : Params) : Obj := { cls := Value.none, data := Data.fields #[] }
noncomputable def o432 (P : Params) : Obj := { cls := Value.type "tuple", data := Data.seq #[Value.str "record" 802, Value.str "number" 803, Value.str "given" 804, Value.str "before" 805, Value.str "answered" 806] }
noncomputable def o433 (P : Params) : Obj := { cls := Value.type "tuple", data := Data.seq #[] }
noncomputable def o434 (P : Params) : Obj := { cls := Value.none, data := Data.func { name := "answer_change", qualname := "answer_change", params := L2.defArgs Sh.s_answer_change, body := FuncBody.stmts (L2.defBody Sh.s_answer_change), scope := L2.defScope Sh.s_answer_change, globals := 0, closure := [], defaults := Value.none, kwdefaults := Value.none } }
noncomputable def o435 (P : Params) : Obj := { cls := Value.type "code", data := Data.fields #[Value.str "answer_change" 799, Value.str "answer_change" 800, Value.str "/claim/cut.py" 801, Value.int 317 0, Value.int 3 0, Value.int 0 0, Value.int 0 0, Value.int 3 0, Value.ref 430, Value.bool Bool.true, Value.int 181 0, Value.ref 431, Value.none, Value.ref 432, Value.ref 433, Value.ref 434, Value.int 807 0, Value.int 317 0, Value.str "/claim/cut.py" 808] }
noncomputable def o436 (P : Params) : Obj := { cls := Value.type "function", data := Data.func { name := "answer_change", qualname := "answer_change", params := L2.defArgs Sh.s_answer_change, body := FuncBody.stmts (L2.defBody Sh.s_answer_change), scope := L2.defScope Sh.s_answer_change, globals := 3, closure := [], defaults := Value.none, kwdefaults := Value.none, pyModule := Value.str "stateheirs.states" 758, code := Value.ref 435 } }
noncomputable def o437 (P : Params) : Obj := { cls := Value.type "tuple", data := Data.seq #[] }
noncomputable def o438 (P : Params) : Obj := { cls := Value.none, data := Data.fields #[] }
noncomputable def o439 (P : Params) : Obj := { cls := Value.type "tuple", data := Data.seq #[Value.str "record" 813, Value.str "number" 814, Value.str "given" 815] }
noncomputable def o440 (P : Params) : Obj := { cls := Value.type "tuple", data := Data.seq #[] }
noncomputable def o441 (P : Params) : Obj := { cls := Value.none, data := Data.func { name := "answer_of_treaties_and_debts", qualname := "answer_of_treaties_and_debts", params := L2.defArgs Sh.s_answer_of_treaties_and_debts, body := FuncBody.stmts (L2.defBody Sh.s_answer_of_treaties_and_debts), scope := L2.defScope Sh.s_answer_of_treaties_and_debts, globals := 0, closure := [], defaults := Value.none, kwdefaults := Value.none } }
noncomputable def o442 (P : Params) : Obj := { cls := Value.type "code", data := Data.fields #[Value.str "answer_of_treaties_and_debts" 810, Value.str "answer_of_treaties_and_debts" 811, Value.str "/claim/cut.py" 812, Value.int 323 0, Value.int 3 0, Value.int 0 0, Value.int 0 0, Value.int 3 0, Value.ref 437, Value.bool Bool.true, Value.int 181 0, Value.ref 438, Value.none, Value.ref 439, Value.ref 440, Value.ref 441, Value.int 816 0, Value.int 323 0, Value.str "/claim/cut.py" 817] }
noncomputable def o443 (P : Params) : Obj := { cls := Value.type "function", data := Data.func { name := "answer_of_treaties_and_debts", qualname := "answer_of_treaties_and_debts", params := L2.defArgs Sh.s_answer_of_treaties_and_debts, body := FuncBody.stmts (L2.defBody Sh.s_answer_of_treaties_and_debts), scope := L2.defScope Sh.s_answer_of_treaties_and_debts, globals := 3, closure := [], defaults := Value.none, kwdefaults := Value.none, pyModule := Value.str "stateheirs.states" 758, code := Value.ref 442 } }
noncomputable def o444 (P : Params) : Obj := { cls := Value.type "tuple", data := Data.seq #[] }
noncomputable def o445 (P : Params) : Obj := { cls := Value.none, data := Data.fields #[] }
noncomputable def o446 (P : Params) : Obj := { cls := Value.type "tuple", data := Data.seq #[Value.str "record" 822, Value.str "number" 823, Value.str "given" 824] }
noncomputable def o447 (P : Params) : Obj := { cls := Value.type "tuple", data := Data.seq #[] }
noncomputable def o448 (P : Params) : Obj := { cls := Value.none, data := Data.func { name := "answer_of_descent", qualname := "answer_of_descent", params := L2.defArgs Sh.s_answer_of_descent, body := FuncBody.stmts (L2.defBody Sh.s_answer_of_descent), scope := L2.defScope Sh.s_answer_of_descent, globals := 0, closure := [], defaults := Value.none, kwdefaults := Value.none } }
noncomputable def o449 (P : Params) : Obj := { cls := Value.type "code", data := Data.fields #[Value.str "answer_of_descent" 819, Value.str "answer_of_descent" 820, Value.str "/claim/cut.py" 821, Value.int 333 0, Value.int 3 0, Value.int 0 0, Value.int 0 0, Value.int 3 0, Value.ref 444, Value.bool Bool.true, Value.int 181 0, Value.ref 445, Value.none, Value.ref 446, Value.ref 447, Value.ref 448, Value.int 825 0, Value.int 333 0, Value.str "/claim/cut.py" 826] }
noncomputable def o450 (P : Params) : Obj := { cls := Value.type "function", data := Data.func { name := "answer_of_descent", qualname := "answer_of_descent", params := L2.defArgs Sh.s_answer_of_descent, body := FuncBody.stmts (L2.defBody Sh.s_answer_of_descent), scope := L2.defScope Sh.s_answer_of_descent, globals := 3, closure := [], defaults := Value.none, kwdefaults := Value.none, pyModule := Value.str "stateheirs.states" 758, code := Value.ref 449 } }
noncomputable def o451 (P : Params) : Obj := { cls := Value.type "tuple", data := Data.seq #[] }
noncomputable def o452 (P : Params) : Obj := { cls := Value.none, data := Data.fields #[] }
noncomputable def o453 (P : Params) : Obj := { cls := Value.type "tuple", data := Data.seq #[Value.str "record" 831, Value.str "number" 832, Value.str "given" 833] }
noncomputable def o454 (P : Params) : Obj := { cls := Value.type "tuple", data := Data.seq #[] }
noncomputable def o455 (P : Params) : Obj := { cls := Value.none, data := Data.func { name := "answer_the_rest", qualname := "answer_the_rest", params := L2.defArgs Sh.s_answer_the_rest, body := FuncBody.stmts (L2.defBody Sh.s_answer_the_rest), scope := L2.defScope Sh.s_answer_the_rest, globals := 0, closure := [], defaults := Value.none, kwdefaults := Value.none } }
noncomputable def o456 (P : Params) : Obj := { cls := Value.type "code", data := Data.fields #[Value.str "answer_the_rest" 828, Value.str "answer_the_rest" 829, Value.str "/claim/cut.py" 830, Value.int 341 0, Value.int 3 0, Value.int 0 0, Value.int 0 0, Value.int 3 0, Value.ref 451, Value.bool Bool.true, Value.int 181 0, Value.ref 452, Value.none, Value.ref 453, Value.ref 454, Value.ref 455, Value.int 834 0, Value.int 341 0, Value.str "/claim/cut.py" 835] }
noncomputable def o457 (P : Params) : Obj := { cls := Value.type "function", data := Data.func { name := "answer_the_rest", qualname := "answer_the_rest", params := L2.defArgs Sh.s_answer_the_rest, body := FuncBody.stmts (L2.defBody Sh.s_answer_the_rest), scope := L2.defScope Sh.s_answer_the_rest, globals := 3, closure := [], defaults := Value.none, kwdefaults := Value.none, pyModule := Value.str "stateheirs.states" 758, code := Value.ref 456 } }
noncomputable def o458 (P : Params) : Obj := { cls := Value.type "tuple", data := Data.seq #[] }
noncomputable def o459 (P : Params) : Obj := { cls := Value.none, data := Data.fields #[] }
noncomputable def o460 (P : Params) : Obj := { cls := Value.type "tuple", data := Data.seq #[Value.str "record" 840, Value.str "number" 841, Value.str "given" 842] }
noncomputable def o461 (P : Params) : Obj := { cls := Value.type "tuple", data := Data.seq #[] }
noncomputable def o462 (P : Params) : Obj := { cls := Value.none, data := Data.func { name := "answer_call", qualname := "answer_call", params := L2.defArgs Sh.s_answer_call, body := FuncBody.stmts (L2.defBody Sh.s_answer_call), scope := L2.defScope Sh.s_answer_call, globals := 0, closure := [], defaults := Value.none, kwdefaults := Value.none } }
noncomputable def o463 (P : Params) : Obj := { cls := Value.type "code", data := Data.fields #[Value.str "answer_call" 837, Value.str "answer_call" 838, Value.str "/claim/cut.py" 839, Value.int 353 0, Value.int 3 0, Value.int 0 0, Value.int 0 0, Value.int 3 0, Value.ref 458, Value.bool Bool.true, Value.int 181 0, Value.ref 459, Value.none, Value.ref 460, Value.ref 461, Value.ref 462, Value.int 843 0, Value.int 353 0, Value.str "/claim/cut.py" 844] }
noncomputable def o464 (P : Params) : Obj := { cls := Value.type "function", data := Data.func { name := "answer_call", qualname := "answer_call", params := L2.defArgs Sh.s_answer_call, body := FuncBody.stmts (L2.defBody Sh.s_answer_call), scope := L2.defScope Sh.s_answer_call, globals := 3, closure := [], defaults := Value.none, kwdefaults := Value.none, pyModule := Value.str "stateheirs.states" 758, code := Value.ref 463 } }
noncomputable def o465 (P : Params) : Obj := { cls := Value.type "tuple", data := Data.seq #[] }
noncomputable def o466 (P : Params) : Obj := { cls := Value.none, data := Data.fields #[] }
noncomputable def o467 (P : Params) : Obj := { cls := Value.type "tuple", data := Data.seq #[Value.str "calls" 849, Value.str "record" 850, Value.str "told" 851, Value.str "place" 852, Value.str "number" 853, Value.str "end" 854, Value.str "answered" 855] }
noncomputable def o468 (P : Params) : Obj := { cls := Value.type "tuple", data := Data.seq #[] }
noncomputable def o469 (P : Params) : Obj := { cls := Value.none, data := Data.func { name := "answers", qualname := "answers", params := L2.defArgs Sh.s_answers, body := FuncBody.stmts (L2.defBody Sh.s_answers), scope := L2.defScope Sh.s_answers, globals := 0, closure := [], defaults := Value.none, kwdefaults := Value.none } }
noncomputable def o470 (P : Params) : Obj := { cls := Value.type "code", data := Data.fields #[Value.str "answers" 846, Value.str "answers" 847, Value.str "/claim/cut.py" 848, Value.int 363 0, Value.int 1 0, Value.int 0 0, Value.int 0 0, Value.int 3 0, Value.ref 465, Value.bool Bool.true, Value.int 181 0, Value.ref 466, Value.none, Value.ref 467, Value.ref 468, Value.ref 469, Value.int 856 0, Value.int 363 0, Value.str "/claim/cut.py" 857] }
noncomputable def o471 (P : Params) : Obj := { cls := Value.type "function", data := Data.func { name := "answers", qualname := "answers", params := L2.defArgs Sh.s_answers, body := FuncBody.stmts (L2.defBody Sh.s_answers), scope := L2.defScope Sh.s_answers, globals := 3, closure := [], defaults := Value.none, kwdefaults := Value.none, pyModule := Value.str "stateheirs.states" 758, code := Value.ref 470 } }
noncomputable def KK : Params → Frag := fun P => (nat_lit 2, boot_o_2 P) :: (nat_lit 3, o3 P) :: (nat_lit 15, o15 P) :: (nat_lit 17, o17 P) :: (nat_lit 18, o18 P) :: (nat_lit 20, o20 P) :: (nat_lit 21, o21 P) :: (nat_lit 22, o22 P) :: (nat_lit 24, o24 P) :: (nat_lit 25, o25 P) :: (nat_lit 27, o27 P) :: (nat_lit 28, o28 P) :: (nat_lit 29, o29 P) :: (nat_lit 31, o31 P) :: (nat_lit 32, o32 P) :: (nat_lit 34, o34 P) :: (nat_lit 35, o35 P) :: (nat_lit 36, o36 P) :: (nat_lit 38, o38 P) :: (nat_lit 39, o39 P) :: (nat_lit 41, o41 P) :: (nat_lit 42, o42 P) :: (nat_lit 43, o43 P) :: (nat_lit 45, o45 P) :: (nat_lit 46, o46 P) :: (nat_lit 48, o48 P) :: (nat_lit 49, o49 P) :: (nat_lit 50, o50 P) :: (nat_lit 52, o52 P) :: (nat_lit 53, o53 P) :: (nat_lit 55, o55 P) :: (nat_lit 56, o56 P) :: (nat_lit 57, o57 P) :: (nat_lit 59, o59 P) :: (nat_lit 60, o60 P) :: (nat_lit 62, o62 P) :: (nat_lit 63, o63 P) :: (nat_lit 64, o64 P) :: (nat_lit 66, o66 P) :: (nat_lit 67, o67 P) :: (nat_lit 69, o69 P) :: (nat_lit 70, o70 P) :: (nat_lit 71, o71 P) :: (nat_lit 73, o73 P) :: (nat_lit 74, o74 P) :: (nat_lit 76, o76 P) :: (nat_lit 77, o77 P) :: (nat_lit 85, o85 P) :: (nat_lit 87, o87 P) :: (nat_lit 88, o88 P) :: (nat_lit 90, o90 P) :: (nat_lit 91, o91 P) :: (nat_lit 92, o92 P) :: (nat_lit 94, o94 P) :: (nat_lit 95, o95 P) :: (nat_lit 97, o97 P) :: (nat_lit 98, o98 P) :: (nat_lit 99, o99 P) :: (nat_lit 101, o101 P) :: (nat_lit 102, o102 P) :: (nat_lit 104, o104 P) :: (nat_lit 105, o105 P) :: (nat_lit 106, o106 P) :: (nat_lit 108, o108 P) :: (nat_lit 109, o109 P) :: (nat_lit 111, o111 P) :: (nat_lit 112, o112 P) :: (nat_lit 113, o113 P) :: (nat_lit 114, o114 P) :: (nat_lit 115, o115 P) :: (nat_lit 116, o116 P) :: (nat_lit 117, o117 P) :: (nat_lit 127, o127 P) :: (nat_lit 129, o129 P) :: (nat_lit 130, o130 P) :: (nat_lit 132, o132 P) :: (nat_lit 133, o133 P) :: (nat_lit 134, o134 P) :: (nat_lit 137, o137 P) :: (nat_lit 138, o138 P) :: (nat_lit 139, o139 P) :: (nat_lit 141, o141 P) :: (nat_lit 142, o142 P) :: (nat_lit 144, o144 P) :: (nat_lit 145, o145 P) :: (nat_lit 146, o146 P) :: (nat_lit 148, o148 P) :: (nat_lit 149, o149 P) :: (nat_lit 151, o151 P) :: (nat_lit 152, o152 P) :: (nat_lit 153, o153 P) :: (nat_lit 155, o155 P) :: (nat_lit 156, o156 P) :: (nat_lit 158, o158 P) :: (nat_lit 159, o159 P) :: (nat_lit 160, o160 P) :: (nat_lit 162, o162 P) :: (nat_lit 163, o163 P) :: (nat_lit 165, o165 P) :: (nat_lit 166, o166 P) :: (nat_lit 167, o167 P) :: (nat_lit 169, o169 P) :: (nat_lit 170, o170 P) :: (nat_lit 172, o172 P) :: (nat_lit 173, o173 P) :: (nat_lit 174, o174 P) :: (nat_lit 177, o177 P) :: (nat_lit 178, o178 P) :: (nat_lit 179, o179 P) :: (nat_lit 181, o181 P) :: (nat_lit 182, o182 P) :: (nat_lit 184, o184 P) :: (nat_lit 185, o185 P) :: (nat_lit 186, o186 P) :: (nat_lit 188, o188 P) :: (nat_lit 189, o189 P) :: (nat_lit 191, o191 P) :: (nat_lit 192, o192 P) :: (nat_lit 193, o193 P) :: (nat_lit 195, o195 P) :: (nat_lit 196, o196 P) :: (nat_lit 198, o198 P) :: (nat_lit 199, o199 P) :: (nat_lit 200, o200 P) :: (nat_lit 202, o202 P) :: (nat_lit 203, o203 P) :: (nat_lit 205, o205 P) :: (nat_lit 206, o206 P) :: (nat_lit 207, o207 P) :: (nat_lit 209, o209 P) :: (nat_lit 210, o210 P) :: (nat_lit 212, o212 P) :: (nat_lit 213, o213 P) :: (nat_lit 214, o214 P) :: (nat_lit 216, o216 P) :: (nat_lit 217, o217 P) :: (nat_lit 219, o219 P) :: (nat_lit 220, o220 P) :: (nat_lit 221, o221 P) :: (nat_lit 224, o224 P) :: (nat_lit 225, o225 P) :: (nat_lit 226, o226 P) :: (nat_lit 228, o228 P) :: (nat_lit 229, o229 P) :: (nat_lit 231, o231 P) :: (nat_lit 232, o232 P) :: (nat_lit 233, o233 P) :: (nat_lit 235, o235 P) :: (nat_lit 236, o236 P) :: (nat_lit 238, o238 P) :: (nat_lit 239, o239 P) :: (nat_lit 240, o240 P) :: (nat_lit 242, o242 P) :: (nat_lit 243, o243 P) :: (nat_lit 245, o245 P) :: (nat_lit 246, o246 P) :: (nat_lit 247, o247 P) :: (nat_lit 248, o248 P) :: (nat_lit 249, o249 P) :: (nat_lit 250, o250 P) :: (nat_lit 251, o251 P) :: (nat_lit 254, o254 P) :: (nat_lit 256, o256 P) :: (nat_lit 257, o257 P) :: (nat_lit 259, o259 P) :: (nat_lit 260, o260 P) :: (nat_lit 261, o261 P) :: (nat_lit 263, o263 P) :: (nat_lit 264, o264 P) :: (nat_lit 266, o266 P) :: (nat_lit 267, o267 P) :: (nat_lit 268, o268 P) :: (nat_lit 270, o270 P) :: (nat_lit 271, o271 P) :: (nat_lit 273, o273 P) :: (nat_lit 274, o274 P) :: (nat_lit 275, o275 P) :: (nat_lit 277, o277 P) :: (nat_lit 278, o278 P) :: (nat_lit 280, o280 P) :: (nat_lit 281, o281 P) :: (nat_lit 282, o282 P) :: (nat_lit 284, o284 P) :: (nat_lit 285, o285 P) :: (nat_lit 287, o287 P) :: (nat_lit 288, o288 P) :: (nat_lit 289, o289 P) :: (nat_lit 291, o291 P) :: (nat_lit 292, o292 P) :: (nat_lit 294, o294 P) :: (nat_lit 295, o295 P) :: (nat_lit 296, o296 P) :: (nat_lit 298, o298 P) :: (nat_lit 299, o299 P) :: (nat_lit 301, o301 P) :: (nat_lit 302, o302 P) :: (nat_lit 303, o303 P) :: (nat_lit 305, o305 P) :: (nat_lit 306, o306 P) :: (nat_lit 308, o308 P) :: (nat_lit 309, o309 P) :: (nat_lit 310, o310 P) :: (nat_lit 312, o312 P) :: (nat_lit 313, o313 P) :: (nat_lit 315, o315 P) :: (nat_lit 316, o316 P) :: (nat_lit 317, o317 P) :: (nat_lit 319, o319 P) :: (nat_lit 320, o320 P) :: (nat_lit 322, o322 P) :: (nat_lit 323, o323 P) :: (nat_lit 324, o324 P) :: (nat_lit 326, o326 P) :: (nat_lit 327, o327 P) :: (nat_lit 329, o329 P) :: (nat_lit 330, o330 P) :: (nat_lit 331, o331 P) :: (nat_lit 333, o333 P) :: (nat_lit 334, o334 P) :: (nat_lit 336, o336 P) :: (nat_lit 337, o337 P) :: (nat_lit 338, o338 P) :: (nat_lit 340, o340 P) :: (nat_lit 341, o341 P) :: (nat_lit 343, o343 P) :: (nat_lit 344, o344 P) :: (nat_lit 345, o345 P) :: (nat_lit 347, o347 P) :: (nat_lit 348, o348 P) :: (nat_lit 350, o350 P) :: (nat_lit 351, o351 P) :: (nat_lit 352, o352 P) :: (nat_lit 354, o354 P) :: (nat_lit 355, o355 P) :: (nat_lit 357, o357 P) :: (nat_lit 358, o358 P) :: (nat_lit 359, o359 P) :: (nat_lit 361, o361 P) :: (nat_lit 362, o362 P) :: (nat_lit 364, o364 P) :: (nat_lit 365, o365 P) :: (nat_lit 366, o366 P) :: (nat_lit 368, o368 P) :: (nat_lit 369, o369 P) :: (nat_lit 371, o371 P) :: (nat_lit 372, o372 P) :: (nat_lit 373, o373 P) :: (nat_lit 375, o375 P) :: (nat_lit 376, o376 P) :: (nat_lit 378, o378 P) :: (nat_lit 379, o379 P) :: (nat_lit 380, o380 P) :: (nat_lit 382, o382 P) :: (nat_lit 383, o383 P) :: (nat_lit 385, o385 P) :: (nat_lit 386, o386 P) :: (nat_lit 387, o387 P) :: (nat_lit 389, o389 P) :: (nat_lit 390, o390 P) :: (nat_lit 392, o392 P) :: (nat_lit 393, o393 P) :: (nat_lit 394, o394 P) :: (nat_lit 396, o396 P) :: (nat_lit 397, o397 P) :: (nat_lit 399, o399 P) :: (nat_lit 400, o400 P) :: (nat_lit 401, o401 P) :: (nat_lit 403, o403 P) :: (nat_lit 404, o404 P) :: (nat_lit 406, o406 P) :: (nat_lit 407, o407 P) :: (nat_lit 408, o408 P) :: (nat_lit 410, o410 P) :: (nat_lit 411, o411 P) :: (nat_lit 413, o413 P) :: (nat_lit 414, o414 P) :: (nat_lit 415, o415 P) :: (nat_lit 417, o417 P) :: (nat_lit 418, o418 P) :: (nat_lit 420, o420 P) :: (nat_lit 421, o421 P) :: (nat_lit 422, o422 P) :: (nat_lit 423, o423 P) :: (nat_lit 425, o425 P) :: (nat_lit 426, o426 P) :: (nat_lit 428, o428 P) :: (nat_lit 429, o429 P) :: (nat_lit 430, o430 P) :: (nat_lit 432, o432 P) :: (nat_lit 433, o433 P) :: (nat_lit 435, o435 P) :: (nat_lit 436, o436 P) :: (nat_lit 437, o437 P) :: (nat_lit 439, o439 P) :: (nat_lit 440, o440 P) :: (nat_lit 442, o442 P) :: (nat_lit 443, o443 P) :: (nat_lit 444, o444 P) :: (nat_lit 446, o446 P) :: (nat_lit 447, o447 P) :: (nat_lit 449, o449 P) :: (nat_lit 450, o450 P) :: (nat_lit 451, o451 P) :: (nat_lit 453, o453 P) :: (nat_lit 454, o454 P) :: (nat_lit 456, o456 P) :: (nat_lit 457, o457 P) :: (nat_lit 458, o458 P) :: (nat_lit 460, o460 P) :: (nat_lit 461, o461 P) :: (nat_lit 463, o463 P) :: (nat_lit 464, o464 P) :: (nat_lit 465, o465 P) :: (nat_lit 467, o467 P) :: (nat_lit 468, o468 P) :: (nat_lit 470, o470 P) :: (nat_lit 471, o471 P) :: []
noncomputable def H1 : Params → Heap := fun P => { objs := { toList := boot_o_0 P :: boot_o_1 P :: boot_o_2 P :: o3 P :: boot_o_4 P :: boot_o_5 P :: boot_o_6 P :: boot_o_7 P :: boot_o_8 P :: boot_o_9 P :: boot_o_10 P :: o11 P :: o12 P :: o13 P :: o14 P :: o15 P :: o16 P :: o17 P :: o18 P :: o19 P :: o20 P :: o21 P :: o22 P :: o23 P :: o24 P :: o25 P :: o26 P :: o27 P :: o28 P :: o29 P :: o30 P :: o31 P :: o32 P :: o33 P :: o34 P :: o35 P :: o36 P :: o37 P :: o38 P :: o39 P :: o40 P :: o41 P :: o42 P :: o43 P :: o44 P :: o45 P :: o46 P :: o47 P :: o48 P :: o49 P :: o50 P :: o51 P :: o52 P :: o53 P :: o54 P :: o55 P :: o56 P :: o57 P :: o58 P :: o59 P :: o60 P :: o61 P :: o62 P :: o63 P :: o64 P :: o65 P :: o66 P :: o67 P :: o68 P :: o69 P :: o70 P :: o71 P :: o72 P :: o73 P :: o74 P :: o75 P :: o76 P :: o77 P :: o78 P :: o79 P :: o80 P :: o81 P :: o82 P :: o83 P :: o84 P :: o85 P :: o86 P :: o87 P :: o88 P :: o89 P :: o90 P :: o91 P :: o92 P :: o93 P :: o94 P :: o95 P :: o96 P :: o97 P :: o98 P :: o99 P :: o100 P :: o101 P :: o102 P :: o103 P :: o104 P :: o105 P :: o106 P :: o107 P :: o108 P :: o109 P :: o110 P :: o111 P :: o112 P :: o113 P :: o114 P :: o115 P :: o116 P :: o117 P :: o118 P :: o119 P :: o120 P :: o121 P :: o122 P :: o123 P :: o124 P :: o125 P :: o126 P :: o127 P :: o128 P :: o129 P :: o130 P :: o131 P :: o132 P :: o133 P :: o134 P :: o135 P :: o136 P :: o137 P :: o138 P :: o139 P :: o140 P :: o141 P :: o142 P :: o143 P :: o144 P :: o145 P :: o146 P :: o147 P :: o148 P :: o149 P :: o150 P :: o151 P :: o152 P :: o153 P :: o154 P :: o155 P :: o156 P :: o157 P :: o158 P :: o159 P :: o160 P :: o161 P :: o162 P :: o163 P :: o164 P :: o165 P :: o166 P :: o167 P :: o168 P :: o169 P :: o170 P :: o171 P :: o172 P :: o173 P :: o174 P :: o175 P :: o176 P :: o177 P :: o178 P :: o179 P :: o180 P :: o181 P :: o182 P :: o183 P :: o184 P :: o185 P :: o186 P :: o187 P :: o188 P :: o189 P :: o190 P :: o191 P :: o192 P :: o193 P :: o194 P :: o195 P :: o196 P :: o197 P :: o198 P :: o199 P :: o200 P :: o201 P :: o202 P :: o203 P :: o204 P :: o205 P :: o206 P :: o207 P :: o208 P :: o209 P :: o210 P :: o211 P :: o212 P :: o213 P :: o214 P :: o215 P :: o216 P :: o217 P :: o218 P :: o219 P :: o220 P :: o221 P :: o222 P :: o223 P :: o224 P :: o225 P :: o226 P :: o227 P :: o228 P :: o229 P :: o230 P :: o231 P :: o232 P :: o233 P :: o234 P :: o235 P :: o236 P :: o237 P :: o238 P :: o239 P :: o240 P :: o241 P :: o242 P :: o243 P :: o244 P :: o245 P :: o246 P :: o247 P :: o248 P :: o249 P :: o250 P :: o251 P :: o252 P :: o253 P :: o254 P :: o255 P :: o256 P :: o257 P :: o258 P :: o259 P :: o260 P :: o261 P :: o262 P :: o263 P :: o264 P :: o265 P :: o266 P :: o267 P :: o268 P :: o269 P :: o270 P :: o271 P :: o272 P :: o273 P :: o274 P :: o275 P :: o276 P :: o277 P :: o278 P :: o279 P :: o280 P :: o281 P :: o282 P :: o283 P :: o284 P :: o285 P :: o286 P :: o287 P :: o288 P :: o289 P :: o290 P :: o291 P :: o292 P :: o293 P :: o294 P :: o295 P :: o296 P :: o297 P :: o298 P :: o299 P :: o300 P :: o301 P :: o302 P :: o303 P :: o304 P :: o305 P :: o306 P :: o307 P :: o308 P :: o309 P :: o310 P :: o311 P :: o312 P :: o313 P :: o314 P :: o315 P :: o316 P :: o317 P :: o318 P :: o319 P :: o320 P :: o321 P :: o322 P :: o323 P :: o324 P :: o325 P :: o326 P :: o327 P :: o328 P :: o329 P :: o330 P :: o331 P :: o332 P :: o333 P :: o334 P :: o335 P :: o336 P :: o337 P :: o338 P :: o339 P :: o340 P :: o341 P :: o342 P :: o343 P :: o344 P :: o345 P :: o346 P :: o347 P :: o348 P :: o349 P :: o350 P :: o351 P :: o352 P :: o353 P :: o354 P :: o355 P :: o356 P :: o357 P :: o358 P :: o359 P :: o360 P :: o361 P :: o362 P :: o363 P :: o364 P :: o365 P :: o366 P :: o367 P :: o368 P :: o369 P :: o370 P :: o371 P :: o372 P :: o373 P :: o374 P :: o375 P :: o376 P :: o377 P :: o378 P :: o379 P :: o380 P :: o381 P :: o382 P :: o383 P :: o384 P :: o385 P :: o386 P :: o387 P :: o388 P :: o389 P :: o390 P :: o391 P :: o392 P :: o393 P :: o394 P :: o395 P :: o396 P :: o397 P :: o398 P :: o399 P :: o400 P :: o401 P :: o402 P :: o403 P :: o404 P :: o405 P :: o406 P :: o407 P :: o408 P :: o409 P :: o410 P :: o411 P :: o412 P :: o413 P :: o414 P :: o415 P :: o416 P :: o417 P :: o418 P :: o419 P :: o420 P :: o421 P :: o422 P :: o423 P :: o424 P :: o425 P :: o426 P :: o427 P :: o428 P :: o429 P :: o430 P :: o431 P :: o432 P :: o433 P :: o434 P :: o435 P :: o436 P :: o437 P :: o438 P :: o439 P :: o440 P :: o441 P :: o442 P :: o443 P :: o444 P :: o445 P :: o446 P :: o447 P :: o448 P :: o449 P :: o450 P :: o451 P :: o452 P :: o453 P :: o454 P :: o455 P :: o456 P :: o457 P :: o458 P :: o459 P :: o460 P :: o461 P :: o462 P :: o463 P :: o464 P :: o465 P :: o466 P :: o467 P :: o468 P :: o469 P :: o470 P :: o471 P :: [] } }
noncomputable def KA : List Addr := nat_lit 2 :: nat_lit 3 :: nat_lit 15 :: nat_lit 17 :: nat_lit 18 :: nat_lit 20 :: nat_lit 21 :: nat_lit 22 :: nat_lit 24 :: nat_lit 25 :: nat_lit 27 :: nat_lit 28 :: nat_lit 29 :: nat_lit 31 :: nat_lit 32 :: nat_lit 34 :: nat_lit 35 :: nat_lit 36 :: nat_lit 38 :: nat_lit 39 :: nat_lit 41 :: nat_lit 42 :: nat_lit 43 :: nat_lit 45 :: nat_lit 46 :: nat_lit 48 :: nat_lit 49 :: nat_lit 50 :: nat_lit 52 :: nat_lit 53 :: nat_lit 55 :: nat_lit 56 :: nat_lit 57 :: nat_lit 59 :: nat_lit 60 :: nat_lit 62 :: nat_lit 63 :: nat_lit 64 :: nat_lit 66 :: nat_lit 67 :: nat_lit 69 :: nat_lit 70 :: nat_lit 71 :: nat_lit 73 :: nat_lit 74 :: nat_lit 76 :: nat_lit 77 :: nat_lit 85 :: nat_lit 87 :: nat_lit 88 :: nat_lit 90 :: nat_lit 91 :: nat_lit 92 :: nat_lit 94 :: nat_lit 95 :: nat_lit 97 :: nat_lit 98 :: nat_lit 99 :: nat_lit 101 :: nat_lit 102 :: nat_lit 104 :: nat_lit 105 :: nat_lit 106 :: nat_lit 108 :: nat_lit 109 :: nat_lit 111 :: nat_lit 112 :: nat_lit 113 :: nat_lit 114 :: nat_lit 115 :: nat_lit 116 :: nat_lit 117 :: nat_lit 127 :: nat_lit 129 :: nat_lit 130 :: nat_lit 132 :: nat_lit 133 :: nat_lit 134 :: nat_lit 137 :: nat_lit 138 :: nat_lit 139 :: nat_lit 141 :: nat_lit 142 :: nat_lit 144 :: nat_lit 145 :: nat_lit 146 :: nat_lit 148 :: nat_lit 149 :: nat_lit 151 :: nat_lit 152 :: nat_lit 153 :: nat_lit 155 :: nat_lit 156 :: nat_lit 158 :: nat_lit 159 :: nat_lit 160 :: nat_lit 162 :: nat_lit 163 :: nat_lit 165 :: nat_lit 166 :: nat_lit 167 :: nat_lit 169 :: nat_lit 170 :: nat_lit 172 :: nat_lit 173 :: nat_lit 174 :: nat_lit 177 :: nat_lit 178 :: nat_lit 179 :: nat_lit 181 :: nat_lit 182 :: nat_lit 184 :: nat_lit 185 :: nat_lit 186 :: nat_lit 188 :: nat_lit 189 :: nat_lit 191 :: nat_lit 192 :: nat_lit 193 :: nat_lit 195 :: nat_lit 196 :: nat_lit 198 :: nat_lit 199 :: nat_lit 200 :: nat_lit 202 :: nat_lit 203 :: nat_lit 205 :: nat_lit 206 :: nat_lit 207 :: nat_lit 209 :: nat_lit 210 :: nat_lit 212 :: nat_lit 213 :: nat_lit 214 :: nat_lit 216 :: nat_lit 217 :: nat_lit 219 :: nat_lit 220 :: nat_lit 221 :: nat_lit 224 :: nat_lit 225 :: nat_lit 226 :: nat_lit 228 :: nat_lit 229 :: nat_lit 231 :: nat_lit 232 :: nat_lit 233 :: nat_lit 235 :: nat_lit 236 :: nat_lit 238 :: nat_lit 239 :: nat_lit 240 :: nat_lit 242 :: nat_lit 243 :: nat_lit 245 :: nat_lit 246 :: nat_lit 247 :: nat_lit 248 :: nat_lit 249 :: nat_lit 250 :: nat_lit 251 :: nat_lit 254 :: nat_lit 256 :: nat_lit 257 :: nat_lit 259 :: nat_lit 260 :: nat_lit 261 :: nat_lit 263 :: nat_lit 264 :: nat_lit 266 :: nat_lit 267 :: nat_lit 268 :: nat_lit 270 :: nat_lit 271 :: nat_lit 273 :: nat_lit 274 :: nat_lit 275 :: nat_lit 277 :: nat_lit 278 :: nat_lit 280 :: nat_lit 281 :: nat_lit 282 :: nat_lit 284 :: nat_lit 285 :: nat_lit 287 :: nat_lit 288 :: nat_lit 289 :: nat_lit 291 :: nat_lit 292 :: nat_lit 294 :: nat_lit 295 :: nat_lit 296 :: nat_lit 298 :: nat_lit 299 :: nat_lit 301 :: nat_lit 302 :: nat_lit 303 :: nat_lit 305 :: nat_lit 306 :: nat_lit 308 :: nat_lit 309 :: nat_lit 310 :: nat_lit 312 :: nat_lit 313 :: nat_lit 315 :: nat_lit 316 :: nat_lit 317 :: nat_lit 319 :: nat_lit 320 :: nat_lit 322 :: nat_lit 323 :: nat_lit 324 :: nat_lit 326 :: nat_lit 327 :: nat_lit 329 :: nat_lit 330 :: nat_lit 331 :: nat_lit 333 :: nat_lit 334 :: nat_lit 336 :: nat_lit 337 :: nat_lit 338 :: nat_lit 340 :: nat_lit 341 :: nat_lit 343 :: nat_lit 344 :: nat_lit 345 :: nat_lit 347 :: nat_lit 348 :: nat_lit 350 :: nat_lit 351 :: nat_lit 352 :: nat_lit 354 :: nat_lit 355 :: nat_lit 357 :: nat_lit 358 :: nat_lit 359 :: nat_lit 361 :: nat_lit 362 :: nat_lit 364 :: nat_lit 365 :: nat_lit 366 :: nat_lit 368 :: nat_lit 369 :: nat_lit 371 :: nat_lit 372 :: nat_lit 373 :: nat_lit 375 :: nat_lit 376 :: nat_lit 378 :: nat_lit 379 :: nat_lit 380 :: nat_lit 382 :: nat_lit 383 :: nat_lit 385 :: nat_lit 386 :: nat_lit 387 :: nat_lit 389 :: nat_lit 390 :: nat_lit 392 :: nat_lit 393 :: nat_lit 394 :: nat_lit 396 :: nat_lit 397 :: nat_lit 399 :: nat_lit 400 :: nat_lit 401 :: nat_lit 403 :: nat_lit 404 :: nat_lit 406 :: nat_lit 407 :: nat_lit 408 :: nat_lit 410 :: nat_lit 411 :: nat_lit 413 :: nat_lit 414 :: nat_lit 415 :: nat_lit 417 :: nat_lit 418 :: nat_lit 420 :: nat_lit 421 :: nat_lit 422 :: nat_lit 423 :: nat_lit 425 :: nat_lit 426 :: nat_lit 428 :: nat_lit 429 :: nat_lit 430 :: nat_lit 432 :: nat_lit 433 :: nat_lit 435 :: nat_lit 436 :: nat_lit 437 :: nat_lit 439 :: nat_lit 440 :: nat_lit 442 :: nat_lit 443 :: nat_lit 444 :: nat_lit 446 :: nat_lit 447 :: nat_lit 449 :: nat_lit 450 :: nat_lit 451 :: nat_lit 453 :: nat_lit 454 :: nat_lit 456 :: nat_lit 457 :: nat_lit 458 :: nat_lit 460 :: nat_lit 461 :: nat_lit 463 :: nat_lit 464 :: nat_lit 465 :: nat_lit 467 :: nat_lit 468 :: nat_lit 470 :: nat_lit 471 :: []
theorem ke : ∀ P, KA = (KK P).map (·.1) := fun _ => by kernel_rfl
theorem three {A B C : Type} {a a' : A} {b b' : B} {c c' : C} (h1 : a = a') (h2 : b = b') (h3 : c = c') : (a, b, c) = (a', b', c') := by
  subst h1 h2 h3
  rfl
theorem run_all (w : World) (os : OsState) : topRun treeTable PySem.Challenge.rw_stateheirs_s01_answers.prog w 11 (some (Value.ref 6)) 2639 ⟨boot_heap w.params, ⟨[]⟩, boot_drawn, boot_toks, os⟩ (topStub PySem.Challenge.rw_stateheirs_s01_answers.prog) = some ⟨H1 w.params, ⟨[]⟩, {}, 859, os⟩ := by kernel_rfl
theorem look_b (w : World) (os : OsState) : openSeen qv [] (importedModules PySem.Challenge.rw_stateheirs_s01_answers.prog.main.body) (fun s => xlAt qv [] s && recOk [] s) true ⟨H1 w.params, ⟨[]⟩, {}, 859, os⟩ = openGood qv [] := by kernel_rfl
theorem look_c (w : World) (os : OsState) : (kHook KK KA ke).obs ⟨H1 w.params, ⟨[]⟩, {}, 859, os⟩ = (kHook KK KA ke).val w := by kernel_rfl
theorem left_all : LeftO PySem.Challenge.rw_stateheirs_s01_answers.prog qv [] (fun s => xlAt qv [] s && recOk [] s) (kHook KK KA ke).obs (kHook KK KA ke).val 5360 :=
  LeftO.of_pieces (H₀ := boot_heap) (H₁ := H1) (gs₀ := ⟨[]⟩) (gs₁ := ⟨[]⟩) (d₀ := boot_drawn) (d₁ := {}) (k₀ := boot_toks) (k₁ := 859) (m₀ := 11) (ann := some (Value.ref 6)) (M := 2639) (boot_open (by kernel_rfl) (by decide) (fun s => by kernel_rfl)) (fun w => by kernel_rfl) run_all (by decide) (fun w => funext fun os => three (by kernel_rfl) (look_b w os) (look_c w os))
end Sh
namespace Sh
open PySem PySem.Spec PyProof.Rows L2
theorem use_txt {P : Program} {w : World} {K : PySem.W.Frag} {mg : Str → Option Value} {fa : Addr} (q : ∃ nm : Nm, nm.f_answers = fa ∧ Txt nm K mg ∧ ∀ (s : Shared) (us : List Value), us.length = 1 → BindsTo s nm.d_answers ⟨us, []⟩ ((["calls"] : List Str).zip us)) :
    ∃ fd : FuncData, (∀ (s : Shared) (us : List Value), us.length = (["calls"] : List Str).length → BindsTo s fd ⟨us, []⟩ ((["calls"] : List Str).zip us)) ∧ ∀ base : Heap, K.In base → base.Ns mainGlobals mg → FnOk P w K mg base CX0 8 fa fd ["calls"] (sp_answers K) := by
  obtain ⟨nm, e, T, b⟩ := q
  subst e
  exact ⟨nm.d_answers, b, fun base _ _ => ok_answers T⟩
end Sh
open PySem PySem.W PyProof.Rows
set_option maxRecDepth 100000 in
set_option maxHeartbeats 0 in
theorem PySem.Challenge.cw_stateheirs_s01_answers_holds : PySem.Challenge.rw_stateheirs_s01_answers.Holds := by
  w_on
  refine holds_os (q := Sh.qv) (loose := []) (Xt := fun s => xlAt Sh.qv [] s && recOk [] s) (XP := XL Sh.qv []) (Yf := Hook.obs (kHook Sh.KK Sh.KA Sh.ke)) (Ya := Hook.val (kHook Sh.KK Sh.KA Sh.ke)) (YP := Hook.says (kHook Sh.KK Sh.KA Sh.ke)) (N := 5360) Sh.left_all (Hook.of (kHook Sh.KK Sh.KA Sh.ke)) (Hook.keeps (kHook Sh.KK Sh.KA Sh.ke)) (fun s e => xl_of s (Bool.and_eq_true_iff.mp e).1) XL.keeps (by rfl) (by rfl) (by rfl) (fun s e => recFacts_of (Bool.and_eq_true_iff.mp e).2) os_shapes (by decide +kernel) (by decide +kernel) ⟨rfl, rfl, rfl, rfl, rfl, by decide +kernel⟩ ?hw ?hc
  (case hw => exact ⟨[.list [.int 0, .int 1, .int 1]], by decide +kernel, by decide +kernel⟩)
  k_fillS
  refine L2.walk_specK (r := PySem.Challenge.rw_stateheirs_s01_answers) (k := 8) (CX := L2.CX0) (ps := ["calls"]) (sp := Sh.sp_answers) (by decide +kernel) rfl rfl ⟨rfl, by decide, by decide⟩ (fun w h Y => PySem.W.kIn_of (K := Sh.KK) Y) ?F ?S (fun _ _ _ _ z => z)
  case F =>
    intro w mg fa h Y KX G hmg
    refine' Sh.use_txt (Sh.txt_mk KX G hmg ?hC_State ?hC_Record ?a_wrong_start ?l_wrong_start ?c_wrong_start_ ?k_wrong_start ?a_wrong_units ?l_wrong_units ?c_wrong_units_ ?k_wrong_units ?a_wrong_mode ?l_wrong_mode ?c_wrong_mode_ ?k_wrong_mode ?a_wrong_parts ?l_wrong_parts ?c_wrong_parts_ ?k_wrong_parts ?a_is_in ?l_is_in ?c_is_in_ ?k_is_in ?a_with_one ?l_with_one ?c_with_one_ ?k_with_one ?a_without_one ?l_without_one ?c_without_one_ ?k_without_one ?a_how_many ?l_how_many ?c_how_many_ ?k_how_many ?a_kept_share ?l_kept_share ?c_kept_share_ ?k_kept_share ?a_State_init ?i_State_init ?l_State_init ?c_State_init_ ?k_State_init ?a_State_is_there ?i_State_is_there ?l_State_is_there ?c_State_is_there_ ?k_State_is_there ?a_State_vanish_into ?i_State_vanish_into ?l_State_vanish_into ?c_State_vanish_into_ ?k_State_vanish_into ?a_State_copied ?i_State_copied ?l_State_copied ?c_State_copied_ ?k_State_copied ?a_Record_init ?i_Record_init ?l_Record_init ?c_Record_init_ ?k_Record_init ?a_Record_begin ?i_Record_begin ?l_Record_begin ?c_Record_begin_ ?k_Record_begin ?a_Record_has_state ?i_Record_has_state ?l_Record_has_state ?c_Record_has_state_ ?k_Record_has_state ?a_Record_had_state ?i_Record_had_state ?l_Record_had_state ?c_Record_had_state_ ?k_Record_had_state ?a_Record_has_treaty ?i_Record_has_treaty ?l_Record_has_treaty ?c_Record_has_treaty_ ?k_Record_has_treaty ?a_Record_is_full ?i_Record_is_full ?l_Record_is_full ?c_Record_is_full_ ?k_Record_is_full ?a_Record_who_is_there ?i_Record_who_is_there ?l_Record_who_is_there ?c_Record_who_is_there_ ?k_Record_who_is_there ?a_Record_total_debt ?i_Record_total_debt ?l_Record_total_debt ?c_Record_total_debt_ ?k_Record_total_debt ?a_Record_who_is_bound ?i_Record_who_is_bound ?l_Record_who_is_bound ?c_Record_who_is_bound_ ?k_Record_who_is_bound ?a_Record_line ?i_Record_line ?l_Record_line ?c_Record_line_ ?k_Record_line ?a_Record_ends_up_in ?i_Record_ends_up_in ?l_Record_ends_up_in ?c_Record_ends_up_in_ ?k_Record_ends_up_in ?a_Record_heirs ?i_Record_heirs ?l_Record_heirs ?c_Record_heirs_ ?k_Record_heirs ?a_Record_part ?i_Record_part ?l_Record_part ?c_Record_part_ ?k_Record_part ?a_Record_take_up ?i_Record_take_up ?l_Record_take_up ?c_Record_take_up_ ?k_Record_take_up ?a_Record_copied_states ?i_Record_copied_states ?l_Record_copied_states ?c_Record_copied_states_ ?k_Record_copied_states ?a_Record_keep_change ?i_Record_keep_change ?l_Record_keep_change ?c_Record_keep_change_ ?k_Record_keep_change ?a_Record_take_back ?i_Record_take_back ?l_Record_take_back ?c_Record_take_back_ ?k_Record_take_back ?a_Record_do_again ?i_Record_do_again ?l_Record_do_again ?c_Record_do_again_ ?k_Record_do_again ?a_su_start ?l_su_start ?c_su_start_ ?k_su_start ?a_su_sign ?l_su_sign ?c_su_sign_ ?k_su_sign ?a_su_leave ?l_su_leave ?c_su_leave_ ?k_su_leave ?a_su_owe ?l_su_owe ?c_su_owe_ ?k_su_owe ?a_su_pay ?l_su_pay ?c_su_pay_ ?k_su_pay ?a_su_part ?l_su_part ?c_su_part_ ?k_su_part ?a_su_join ?l_su_join ?c_su_join_ ?k_su_join ?a_su_follow ?l_su_follow ?c_su_follow_ ?k_su_follow ?a_one_more ?l_one_more ?c_one_more_ ?k_one_more ?a_su_from ?l_su_from ?c_su_from_ ?k_su_from ?a_su_line ?l_su_line ?c_su_line_ ?k_su_line ?a_su_heirs ?l_su_heirs ?c_su_heirs_ ?k_su_heirs ?a_su_kin ?l_su_kin ?c_su_kin_ ?k_su_kin ?a_su_treaties ?l_su_treaties ?c_su_treaties_ ?k_su_treaties ?a_su_bound ?l_su_bound ?c_su_bound_ ?k_su_bound ?a_su_common ?l_su_common ?c_su_common_ ?k_su_common ?a_su_debt ?l_su_debt ?c_su_debt_ ?k_su_debt ?a_su_total ?l_su_total ?c_su_total_ ?k_su_total ?a_su_whole ?l_su_whole ?c_su_whole_ ?k_su_whole ?a_su_could ?l_su_could ?c_su_could_ ?k_su_could ?a_su_would ?l_su_would ?c_su_would_ ?k_su_would ?a_su_state ?l_su_state ?c_su_state_ ?k_su_state ?a_su_back ?l_su_back ?c_su_back_ ?k_su_back ?a_su_again ?l_su_again ?c_su_again_ ?k_su_again ?a_make_change ?l_make_change ?c_make_change_ ?k_make_change ?a_answer_change ?l_answer_change ?c_answer_change_ ?k_answer_change ?a_answer_of_treaties_and_debts ?l_answer_of_treaties_and_debts ?c_answer_of_treaties_and_debts_ ?k_answer_of_treaties_and_debts ?a_answer_of_descent ?l_answer_of_descent ?c_answer_of_descent_ ?k_answer_of_descent ?a_answer_the_rest ?l_answer_the_rest ?c_answer_the_rest_ ?k_answer_the_rest ?a_answer_call ?l_answer_call ?c_answer_call_ ?k_answer_call ?a_answers ?l_answers ?c_answers_ ?k_answers ?pg_State ?hd_State ?po_State ?sa_State ?mk_State ?kc_State ?na_State_bound ?na_State_may_follow ?na_State_owes ?na_State_parted_from ?na_State_taken_by ?pg_Record ?hd_Record ?po_Record ?sa_Record ?mk_Record ?kc_Record ?na_Record_treaties ?na_Record_states ?na_Record_earlier ?na_Record_undone ?g_MOST_AT_START ?g_MOST_TREATIES ?g_MOST_UNITS ?g_MOST_OWED ?g_MOST_PARTS ?g_MOST_STATES ?g_MOST_TAKEN_BACK ?g_THERE_IS_NONE ?g_NOT_SO ?g_OWES_LESS ?g_BOUND_ALREADY ?g_WRONG_NUMBER ?g_NO_MORE_STATES ?g_TOO_MUCH_OWED ?g_SIZES ?gl_SIZES ?gv_SIZES ?g_LAST_CHANGE ?g_LAST_OF_TREATIES_AND_DEBTS ?g_LAST_OF_DESCENT ?no_enumerate ?no_len ?no_range ?no_sum)
    (case hC_State => k_is)
    (case hC_Record => k_is)
    (case a_wrong_start => k_is)
    (case l_wrong_start => k_is)
    (case c_wrong_start_ => k_is)
    (case k_wrong_start => k_is)
    (case a_wrong_units => k_is)
    (case l_wrong_units => k_is)
    (case c_wrong_units_ => k_is)
    (case k_wrong_units => k_is)
    (case a_wrong_mode => k_is)
    (case l_wrong_mode => k_is)
    (case c_wrong_mode_ => k_is)
    (case k_wrong_mode => k_is)
    (case a_wrong_parts => k_is)
    (case l_wrong_parts => k_is)
    (case c_wrong_parts_ => k_is)
    (case k_wrong_parts => k_is)
    (case a_is_in => k_is)
    (case l_is_in => k_is)
    (case c_is_in_ => k_is)
    (case k_is_in => k_is)
    (case a_with_one => k_is)
    (case l_with_one => k_is)
    (case c_with_one_ => k_is)
    (case k_with_one => k_is)
    (case a_without_one => k_is)
    (case l_without_one => k_is)
    (case c_without_one_ => k_is)
    (case k_without_one => k_is)
    (case a_how_many => k_is)
    (case l_how_many => k_is)
    (case c_how_many_ => k_is)
    (case k_how_many => k_is)
    (case a_kept_share => k_is)
    (case l_kept_share => k_is)
    (case c_kept_share_ => k_is)
    (case k_kept_share => k_is)
    (case a_State_init => k_is)
    (case i_State_init => k_is)
    (case l_State_init => k_is)
    (case c_State_init_ => k_is)
    (case k_State_init => k_is)
    (case a_State_is_there => k_is)
    (case i_State_is_there => k_is)
    (case l_State_is_there => k_is)
    (case c_State_is_there_ => k_is)
    (case k_State_is_there => k_is)
    (case a_State_vanish_into => k_is)
    (case i_State_vanish_into => k_is)
    (case l_State_vanish_into => k_is)
    (case c_State_vanish_into_ => k_is)
    (case k_State_vanish_into => k_is)
    (case a_State_copied => k_is)
    (case i_State_copied => k_is)
    (case l_State_copied => k_is)
    (case c_State_copied_ => k_is)
    (case k_State_copied => k_is)
    (case a_Record_init => k_is)
    (case i_Record_init => k_is)
    (case l_Record_init => k_is)
    (case c_Record_init_ => k_is)
    (case k_Record_init => k_is)
    (case a_Record_begin => k_is)
    (case i_Record_begin => k_is)
    (case l_Record_begin => k_is)
    (case c_Record_begin_ => k_is)
    (case k_Record_begin => k_is)
    (case a_Record_has_state => k_is)
    (case i_Record_has_state => k_is)
    (case l_Record_has_state => k_is)
    (case c_Record_has_state_ => k_is)
    (case k_Record_has_state => k_is)
    (case a_Record_had_state => k_is)
    (case i_Record_had_state => k_is)
    (case l_Record_had_state => k_is)
    (case c_Record_had_state_ => k_is)
    (case k_Record_had_state => k_is)
    (case a_Record_has_treaty => k_is)
    (case i_Record_has_treaty => k_is)
    (case l_Record_has_treaty => k_is)
    (case c_Record_has_treaty_ => k_is)
    (case k_Record_has_treaty => k_is)
    (case a_Record_is_full => k_is)
    (case i_Record_is_full => k_is)
    (case l_Record_is_full => k_is)
    (case c_Record_is_full_ => k_is)
    (case k_Record_is_full => k_is)
    (case a_Record_who_is_there => k_is)
    (case i_Record_who_is_there => k_is)
    (case l_Record_who_is_there => k_is)
    (case c_Record_who_is_there_ => k_is)
    (case k_Record_who_is_there => k_is)
    (case a_Record_total_debt => k_is)
    (case i_Record_total_debt => k_is)
    (case l_Record_total_debt => k_is)
    (case c_Record_total_debt_ => k_is)
    (case k_Record_total_debt => k_is)
    (case a_Record_who_is_bound => k_is)
    (case i_Record_who_is_bound => k_is)
    (case l_Record_who_is_bound => k_is)
    (case c_Record_who_is_bound_ => k_is)
    (case k_Record_who_is_bound => k_is)
    (case a_Record_line => k_is)
    (case i_Record_line => k_is)
    (case l_Record_line => k_is)
    (case c_Record_line_ => k_is)
    (case k_Record_line => k_is)
    (case a_Record_ends_up_in => k_is)
    (case i_Record_ends_up_in => k_is)
    (case l_Record_ends_up_in => k_is)
    (case c_Record_ends_up_in_ => k_is)
    (case k_Record_ends_up_in => k_is)
    (case a_Record_heirs => k_is)
    (case i_Record_heirs => k_is)
    (case l_Record_heirs => k_is)
    (case c_Record_heirs_ => k_is)
    (case k_Record_heirs => k_is)
    (case a_Record_part => k_is)
    (case i_Record_part => k_is)
    (case l_Record_part => k_is)
    (case c_Record_part_ => k_is)
    (case k_Record_part => k_is)
    (case a_Record_take_up => k_is)
    (case i_Record_take_up => k_is)
    (case l_Record_take_up => k_is)
    (case c_Record_take_up_ => k_is)
    (case k_Record_take_up => k_is)
    (case a_Record_copied_states => k_is)
    (case i_Record_copied_states => k_is)
    (case l_Record_copied_states => k_is)
    (case c_Record_copied_states_ => k_is)
    (case k_Record_copied_states => k_is)
    (case a_Record_keep_change => k_is)
    (case i_Record_keep_change => k_is)
    (case l_Record_keep_change => k_is)
    (case c_Record_keep_change_ => k_is)
    (case k_Record_keep_change => k_is)
    (case a_Record_take_back => k_is)
    (case i_Record_take_back => k_is)
    (case l_Record_take_back => k_is)
    (case c_Record_take_back_ => k_is)
    (case k_Record_take_back => k_is)
    (case a_Record_do_again => k_is)
    (case i_Record_do_again => k_is)
    (case l_Record_do_again => k_is)
    (case c_Record_do_again_ => k_is)
    (case k_Record_do_again => k_is)
    (case a_su_start => k_is)
    (case l_su_start => k_is)
    (case c_su_start_ => k_is)
    (case k_su_start => k_is)
    (case a_su_sign => k_is)
    (case l_su_sign => k_is)
    (case c_su_sign_ => k_is)
    (case k_su_sign => k_is)
    (case a_su_leave => k_is)
    (case l_su_leave => k_is)
    (case c_su_leave_ => k_is)
    (case k_su_leave => k_is)
    (case a_su_owe => k_is)
    (case l_su_owe => k_is)
    (case c_su_owe_ => k_is)
    (case k_su_owe => k_is)
    (case a_su_pay => k_is)
    (case l_su_pay => k_is)
    (case c_su_pay_ => k_is)
    (case k_su_pay => k_is)
    (case a_su_part => k_is)
    (case l_su_part => k_is)
    (case c_su_part_ => k_is)
    (case k_su_part => k_is)
    (case a_su_join => k_is)
    (case l_su_join => k_is)
    (case c_su_join_ => k_is)
    (case k_su_join => k_is)
    (case a_su_follow => k_is)
    (case l_su_follow => k_is)
    (case c_su_follow_ => k_is)
    (case k_su_follow => k_is)
    (case a_one_more => k_is)
    (case l_one_more => k_is)
    (case c_one_more_ => k_is)
    (case k_one_more => k_is)
    (case a_su_from => k_is)
    (case l_su_from => k_is)
    (case c_su_from_ => k_is)
    (case k_su_from => k_is)
    (case a_su_line => k_is)
    (case l_su_line => k_is)
    (case c_su_line_ => k_is)
    (case k_su_line => k_is)
    (case a_su_heirs => k_is)
    (case l_su_heirs => k_is)
    (case c_su_heirs_ => k_is)
    (case k_su_heirs => k_is)
    (case a_su_kin => k_is)
    (case l_su_kin => k_is)
    (case c_su_kin_ => k_is)
    (case k_su_kin => k_is)
    (case a_su_treaties => k_is)
    (case l_su_treaties => k_is)
    (case c_su_treaties_ => k_is)
    (case k_su_treaties => k_is)
    (case a_su_bound => k_is)
    (case l_su_bound => k_is)
    (case c_su_bound_ => k_is)
    (case k_su_bound => k_is)
    (case a_su_common => k_is)
    (case l_su_common => k_is)
    (case c_su_common_ => k_is)
    (case k_su_common => k_is)
    (case a_su_debt => k_is)
    (case l_su_debt => k_is)
    (case c_su_debt_ => k_is)
    (case k_su_debt => k_is)
    (case a_su_total => k_is)
    (case l_su_total => k_is)
    (case c_su_total_ => k_is)
    (case k_su_total => k_is)
    (case a_su_whole => k_is)
    (case l_su_whole => k_is)
    (case c_su_whole_ => k_is)
    (case k_su_whole => k_is)
    (case a_su_could => k_is)
    (case l_su_could => k_is)
    (case c_su_could_ => k_is)
    (case k_su_could => k_is)
    (case a_su_would => k_is)
    (case l_su_would => k_is)
    (case c_su_would_ => k_is)
    (case k_su_would => k_is)
    (case a_su_state => k_is)
    (case l_su_state => k_is)
    (case c_su_state_ => k_is)
    (case k_su_state => k_is)
    (case a_su_back => k_is)
    (case l_su_back => k_is)
    (case c_su_back_ => k_is)
    (case k_su_back => k_is)
    (case a_su_again => k_is)
    (case l_su_again => k_is)
    (case c_su_again_ => k_is)
    (case k_su_again => k_is)
    (case a_make_change => k_is)
    (case l_make_change => k_is)
    (case c_make_change_ => k_is)
    (case k_make_change => k_is)
    (case a_answer_change => k_is)
    (case l_answer_change => k_is)
    (case c_answer_change_ => k_is)
    (case k_answer_change => k_is)
    (case a_answer_of_treaties_and_debts => k_is)
    (case l_answer_of_treaties_and_debts => k_is)
    (case c_answer_of_treaties_and_debts_ => k_is)
    (case k_answer_of_treaties_and_debts => k_is)
    (case a_answer_of_descent => k_is)
    (case l_answer_of_descent => k_is)
    (case c_answer_of_descent_ => k_is)
    (case k_answer_of_descent => k_is)
    (case a_answer_the_rest => k_is)
    (case l_answer_the_rest => k_is)
    (case c_answer_the_rest_ => k_is)
    (case k_answer_the_rest => k_is)
    (case a_answer_call => k_is)
    (case l_answer_call => k_is)
    (case c_answer_call_ => k_is)
    (case k_answer_call => k_is)
    (case a_answers => k_is)
    (case l_answers => k_is)
    (case c_answers_ => k_is)
    (case k_answers => k_is)
    (case pg_State => k_is)
    (case hd_State => k_is)
    (case po_State => k_is)
    (case sa_State => k_is)
    (case mk_State => k_is)
    (case kc_State => k_is)
    (case na_State_bound => k_is)
    (case na_State_may_follow => k_is)
    (case na_State_owes => k_is)
    (case na_State_parted_from => k_is)
    (case na_State_taken_by => k_is)
    (case pg_Record => k_is)
    (case hd_Record => k_is)
    (case po_Record => k_is)
    (case sa_Record => k_is)
    (case mk_Record => k_is)
    (case kc_Record => k_is)
    (case na_Record_treaties => k_is)
    (case na_Record_states => k_is)
    (case na_Record_earlier => k_is)
    (case na_Record_undone => k_is)
    (case g_MOST_AT_START => k_is)
    (case g_MOST_TREATIES => k_is)
    (case g_MOST_UNITS => k_is)
    (case g_MOST_OWED => k_is)
    (case g_MOST_PARTS => k_is)
    (case g_MOST_STATES => k_is)
    (case g_MOST_TAKEN_BACK => k_is)
    (case g_THERE_IS_NONE => k_is)
    (case g_NOT_SO => k_is)
    (case g_OWES_LESS => k_is)
    (case g_BOUND_ALREADY => k_is)
    (case g_WRONG_NUMBER => k_is)
    (case g_NO_MORE_STATES => k_is)
    (case g_TOO_MUCH_OWED => k_is)
    (case g_SIZES => k_is)
    (case gl_SIZES => k_is)
    (case gv_SIZES => rfl)
    (case g_LAST_CHANGE => k_is)
    (case g_LAST_OF_TREATIES_AND_DEBTS => k_is)
    (case g_LAST_OF_DESCENT => k_is)
    (case no_enumerate => k_is)
    (case no_len => k_is)
    (case no_range => k_is)
    (case no_sum => k_is)
  case S =>
    intro K H xs a hO hwi hask hx
    cases hx with
    | cons h1 h2 =>
      cases h2
      cases h1 with
      | lst hs ha =>
        have e := L2.ints_dw a.1 _ ha
        subst e
        exact ⟨_, a.1, rfl, hs, hask, fun H' p hp => .lst (L2.SqL.of hp) (L2.dw_ints _)⟩
