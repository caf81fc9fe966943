import PyProof.Rows.All
import Wide.All
import OpenK.AllK
import Wide.FinOn
import PyProof.EqAt
import PyProof.EqKinds
import PyProof.TupleCall
import KE.BitLaws
import Open.SpecLaws
import KE.OsHead
import KE.OsGo
import PyQl46
import PyFlatLaws
import PySem.Challenge.RW_treebridge_s01_answers
set_option Elab.async false
set_option linter.all false
set_option maxRecDepth 100000
namespace L2
open PySem PySem.Spec PyProof.Rows
abbrev Key := Sum Int Str
def keyIs : Key → Value → Bool
  | .inl k, v => Value.isInt k v
  | .inr x, v => Value.isStrOf x v
def keyH (w : World) : Key → Int
  | .inl k => hashInt k
  | .inr x => hashStr w x
theorem keyIs_shape : ∀ {k : Key} {v : Value}, keyIs k v = true → (∃ i t, k = Sum.inl i ∧ v = Value.int i t) ∨ (∃ x t, k = Sum.inr x ∧ v = Value.str x t)
  | .inl i, v, h => by
    obtain ⟨t, e⟩ := Value.isInt_shape (k := i) (v := v) h
    exact .inl ⟨i, t, rfl, e⟩
  | .inr x, v, h => by
    obtain ⟨t, e⟩ := Value.isStrOf_shape (x := x) (v := v) h
    exact .inr ⟨x, t, rfl, e⟩
theorem keyIs_int (i : Int) (t : Tok) : keyIs (.inl i) (.int i t) = true := by simp [keyIs, Value.isInt]
theorem keyIs_str (x : Str) (t : Tok) : keyIs (.inr x) (.str x t) = true := by simp [keyIs, Value.isStrOf]
theorem key_ll (a b : Int) : decide ((Sum.inl a : Key) = Sum.inl b) = (a == b) := by
  by_cases e : a = b
  · subst e; simp
  · have h : ¬ (Sum.inl a : Key) = Sum.inl b := fun q => e (Sum.inl.inj q)
    rw [decide_eq_false h]
    exact (beq_eq_false_iff_ne.mpr e).symm
theorem key_rr (a b : Str) : decide ((Sum.inr a : Key) = Sum.inr b) = decide (a = b) := by
  by_cases e : a = b
  · subst e; simp
  · have h : ¬ (Sum.inr a : Key) = Sum.inr b := fun q => e (Sum.inr.inj q)
    rw [decide_eq_false h, decide_eq_false e]
theorem key_lr (a : Int) (b : Str) : decide ((Sum.inl a : Key) = Sum.inr b) = false := decide_eq_false (fun q => nomatch q)
theorem key_rl (a : Str) (b : Int) : decide ((Sum.inr a : Key) = Sum.inl b) = false := decide_eq_false (fun q => nomatch q)
def mixKind (prog : Program) (w : World) : PySem.KeyKind prog w Key where
  is := keyIs
  hash := keyH w
  inj := fun v a b ha hb => by
    rcases keyIs_shape ha with ⟨i, t, rfl, rfl⟩ | ⟨x, t, rfl, rfl⟩
    · rcases keyIs_shape hb with ⟨j, u, rfl, e⟩ | ⟨y, u, rfl, e⟩
      · injection e with e1 _; rw [e1]
      · exact nomatch e
    · rcases keyIs_shape hb with ⟨j, u, rfl, e⟩ | ⟨y, u, rfl, e⟩
      · exact nomatch e
      · injection e with e1 _; rw [e1]
  byValue := fun k v h => by
    rcases keyIs_shape h with ⟨i, t, rfl, rfl⟩ | ⟨x, t, rfl, rfl⟩ <;> rfl
  pyHash := fun hv h => by
    rcases keyIs_shape hv with ⟨i, t, rfl, rfl⟩ | ⟨x, t, rfl, rfl⟩
    · exact wpAny_pyHash_int h
    · exact wpAny_pyHash_str h
  eqBool := fun hu hv h => by
    rcases keyIs_shape hu with ⟨i, t, rfl, rfl⟩ | ⟨x, t, rfl, rfl⟩
    · rcases keyIs_shape hv with ⟨j, u, rfl, rfl⟩ | ⟨y, u, rfl, rfl⟩
      · rw [key_ll] at h; exact wpAny_eqBool_int h
      · rw [key_lr] at h; exact SeqAt.EqAt.int_str i t y u _ _ _ _ h
    · rcases keyIs_shape hv with ⟨j, u, rfl, rfl⟩ | ⟨y, u, rfl, rfl⟩
      · rw [key_rl] at h; exact SeqAt.EqAt.str_int x t j u _ _ _ _ h
      · rw [key_rr] at h; exact wpAny_eqBool_str h
  «strs» := fun k x t v h => by
    rcases keyIs_shape h with ⟨i, u, rfl, e⟩ | ⟨y, u, rfl, e⟩
    · exact nomatch e
    · injection e with e1 _
      subst e1
      cases v <;> rfl
theorem mixKind_int (prog : Program) (w : World) (i : Int) (t : Tok) : (mixKind prog w).is (.inl i) (.int i t) = true := keyIs_int i t
theorem mixKind_str (prog : Program) (w : World) (x : Str) (t : Tok) : (mixKind prog w).is (.inr x) (.str x t) = true := keyIs_str x t
end L2
namespace L2
open PySem PySem.Spec PyProof.Rows
inductive V where
  | non | bl (b : Bool) | int (i : Int) | str (x : Str) | byt (b : Array UInt8) | flt (b : UInt64) | ref (a : Addr) | ty (n : String)
  deriving DecidableEq
def RelV : V → Value → Prop
  | .non, u => u = Value.none
  | .bl b, u => u = Value.bool b
  | .int i, u => ∃ t, u = Value.int i t
  | .str x, u => ∃ t, u = Value.str x t
  | .byt b, u => ∃ t, u = Value.bytes b t
  | .flt b, u => ∃ t, u = Value.float b t
  | .ref a, u => u = Value.ref a
  | .ty n, u => u = Value.type n
abbrev Vals : List V → List Value → Prop := Paired RelV
theorem Vals.length {xs : List V} {us : List Value} (r : Vals xs us) : xs.length = us.length := Paired.length r
theorem Vals.get : ∀ {xs : List V} {us : List Value} {i : Nat} {x : V}, Vals xs us → xs[i]? = some x → ∃ u, us[i]? = some u ∧ RelV x u
  | _, _, _, _, .nil, e => by simp at e
  | _, _, 0, _, .cons r _, e => by simp at e; subst e; exact ⟨_, rfl, r⟩
  | _, _, i + 1, x, .cons _ t, e => by
    obtain ⟨u, h1, h2⟩ := Vals.get (i := i) (x := x) t (by simpa using e)
    exact ⟨u, by simpa using h1, h2⟩
theorem Vals.append : ∀ {xs ys : List V} {us ws : List Value}, Vals xs us → Vals ys ws → Vals (xs ++ ys) (us ++ ws)
  | _, _, _, _, .nil, s => s
  | _, _, _, _, .cons r t, s => .cons r (Vals.append t s)
theorem Vals.take : ∀ {xs : List V} {us : List Value} (n : Nat), Vals xs us → Vals (xs.take n) (us.take n)
  | _, _, 0, _ => .nil
  | _, _, _ + 1, .nil => .nil
  | _, _, n + 1, .cons r t => .cons r (Vals.take n t)
theorem Vals.drop : ∀ {xs : List V} {us : List Value} (n : Nat), Vals xs us → Vals (xs.drop n) (us.drop n)
  | _, _, 0, r => r
  | _, _, _ + 1, .nil => .nil
  | _, _, n + 1, .cons _ t => Vals.drop n t
def RelO : Option V → Option Value → Prop
  | some v, some u => RelV v u
  | none, none => True
  | _, _ => False
def KV {κ : Type} : List (κ × V) → List (κ × Value) → Prop := Paired fun (p : κ × V) (q : κ × Value) => p.1 = q.1 ∧ RelV p.2 q.2
def kV : Key → V
  | .inl i => .int i
  | .inr x => .str x
inductive HO where
  /-- a list -/
  | lst (xs : List V)
  /-- a tuple (never changes) -/
  | tup (xs : List V)
  /-- a dict whose keys are ints and texts; one whose keys are tuples of ints and texts (the empty one is both) -/
  | dK (kvs : List (Key × V)) | dT (kvs : List (List Key × V))
  /-- a set of ints: its members, its size -/
  | set (S : Int → Bool) (n : Nat)
  /-- an instance of the class at C, its dict at dx, its attributes -/
  | ins (C dx : Addr) (fs : List (Str × V))
  /-- the dict of the instance at x -/
  | own (x : Addr)
  /-- the dict of an exception -/
  | xd (fs : List (Str × V))
  /-- a bound method, f of x -/
  | met (f x : Addr)
  /-- a range object lo, lo + 1, .. below hi -/
  | rng (lo hi : Int)
  /-- a thing that is known to the object (the script; a dict while a loop walks it): read, never written while it is so -/
  | frz (o : Obj) (u : HO)
  /-- a code object's table -/
  | tbl (ps : Array Value)
  /-- any other thing, by what is true of its one object (a def of one's own: SetO a S n := HO.ext fun h => ..) -/
  | ext (φ : Heap → Prop)
abbrev Hp := Addr → Option HO
def upd (H : Hp) (a : Addr) (o : HO) : Hp := fun b => if b = a then some o else H b
theorem upd_same {H : Hp} {a : Addr} {o : HO} : upd H a o a = some o := by unfold upd; rw [if_pos rfl]
theorem upd_ne {H : Hp} {a b : Addr} {o : HO} (h : b ≠ a) : upd H a o b = H b := by unfold upd; rw [if_neg h]
theorem upd_upd {H : Hp} {a : Addr} {o u : HO} : upd (upd H a o) a u = upd H a u := by
  funext b; unfold upd; split <;> rfl
theorem ne_of {H : Hp} {a b : Addr} {o u : HO} (h : H a = some o) (h' : H b = some u) (d : o ≠ u) : a ≠ b := by
  intro e; subst e; rw [h] at h'; exact d (Option.some.inj h')
theorem ne_of_none {H : Hp} {a b : Addr} {o : HO} (h : H a = some o) (h' : H b = none) : a ≠ b := by
  intro e; subst e; rw [h] at h'; cases h'
section
variable (P : Program) (w : World)
def ObjOk (H : Hp) (h : Heap) (a : Addr) : HO → Prop
  | .lst xs => xs.length ≤ sizeLine ∧ ∃ (its : List Value) (n : Nat), Vals xs its ∧ h.get? a = some { cls := .type "list", data := .seq its.toArray n }
  | .tup xs => xs.length ≤ sizeLine ∧ ∃ its : List Value, Vals xs its ∧ IsTup h a its.toArray
  | .dK kvs => kvs.length ≤ sizeLine ∧ (a == sysModules) = false ∧ ∃ vs, KV kvs vs ∧ h.DictOf (mixKind P w) a vs
  | .dT kvs => kvs.length ≤ sizeLine ∧ (a == sysModules) = false ∧ ∃ xs : List (List Key × Addr × Value),
      Paired (fun (p : List Key × V) (q : List Key × Addr × Value) => p.1 = q.1 ∧ H q.2.1 = some (.tup (p.1.map kV)) ∧ RelV p.2 q.2.2) kvs xs ∧
      ∃ o es ep, h.get? a = some o ∧ o.ExactDict ∧ o.data = .dict es ep ∧ es.toList = xs.map (entryOfKey (tupleKind (mixKind P w))) ∧ (xs.map (·.1)).Nodup
  | .set S n => h.SetOf (intKind P w) a S n
  | .ins C dx fs => H dx = some (.own a) ∧ fs.length ≤ 1000 ∧ dx ≠ a ∧ h.get? a = some (PySem.W.instObj C dx) ∧
      ∃ mA, h.Ns1 dx mA ∧ (∀ f, RelO (fs.lookup f) (mA f)) ∧ PySem.Within mA (fs.map (·.1))
  | .own _ => ∃ o, h.get? a = some o
  | .xd fs => ∃ mA, h.Ns1 a mA ∧ ∀ f, RelO (fs.lookup f) (mA f)
  | .rng lo hi => ∃ t u v, h.get? a = some { cls := .type "range", data := .fields #[.int lo t, .int hi u, .int 1 v] }
  | .frz o u => h.get? a = some o ∧ ObjOk H h a u
  | .tbl ps => h.get? a = some { cls := .none, data := .fields ps }
  | .met f x => h.get? a = some (PySem.W.methodObj (.ref f) (.ref x))
  | .ext φ => φ h ∧ (∃ o, h.get? a = some o) ∧ ∀ h1 h2 : Heap, φ h1 → (∀ o, h1.get? a = some o → h2.get? a = some o) → φ h2
def HOk (H : Hp) (h : Heap) : Prop := ∀ a o, H a = some o → ObjOk P w H h a o
end
section
variable {P : Program} {w : World} {H H' : Hp} {h h' : Heap} {a : Addr} {o : HO}
theorem ObjOk.lt (x : ObjOk P w H h a o) : a < h.objs.size := by
  cases o with
  | lst xs => obtain ⟨_, _, _, _, e⟩ := x; exact Heap.lt_size e
  | tup xs => obtain ⟨_, _, _, p⟩ := x; exact p.lt
  | dK kvs => obtain ⟨_, _, _, _, o, _, _, e, _⟩ := x; exact Heap.lt_size e
  | dT kvs => obtain ⟨_, _, _, _, o, _, _, e, _⟩ := x; exact Heap.lt_size e
  | set S n => obtain ⟨o, _, _, _, e, _⟩ := x; exact Heap.lt_size e
  | ins C dx fs => obtain ⟨_, _, _, e, _⟩ := x; exact Heap.lt_size e
  | own y => obtain ⟨_, e⟩ := x; exact Heap.lt_size e
  | xd fs => obtain ⟨_, ⟨_, _, _, e, _⟩, _⟩ := x; exact Heap.lt_size e
  | rng lo hi => obtain ⟨_, _, _, e⟩ := x; exact Heap.lt_size e
  | frz ob u => obtain ⟨e, _⟩ := x; exact Heap.lt_size e
  | tbl ps => exact Heap.lt_size (show h.get? a = some _ from x)
  | met f y => exact Heap.lt_size (show h.get? a = some _ from x)
  | ext φ => obtain ⟨_, ⟨_, e⟩, _⟩ := x; exact Heap.lt_size e
theorem Paired.mapP {α β : Type} {F G : α → β → Prop} : ∀ {l₁ : List α} {l₂ : List β}, Paired F l₁ l₂ → (∀ a b, F a b → G a b) → Paired G l₁ l₂
  | _, _, .nil, _ => .nil
  | _, _, .cons r t, f => .cons (f _ _ r) (Paired.mapP t f)
theorem ObjOk.stay (x : ObjOk P w H h a o) (k : ∀ b u, (b = a ∨ H b = some (.own a)) → h.get? b = some u → h'.get? b = some u)
    (ho : ∀ b, H b = some (.own a) → H' b = some (.own a)) (ht : ∀ b xs, H b = some (.tup xs) → H' b = some (.tup xs)) : ObjOk P w H' h' a o := by
  induction o with
  | lst xs => obtain ⟨z, its, n, r, e⟩ := x; exact ⟨z, its, n, r, k _ _ (.inl rfl) e⟩
  | tup xs => obtain ⟨z, its, r, ob, e, c⟩ := x; exact ⟨z, its, r, ob, k _ _ (.inl rfl) e, c⟩
  | dK kvs => obtain ⟨z, y, vs, r, ob, es, ep, e, c⟩ := x; exact ⟨z, y, vs, r, ob, es, ep, k _ _ (.inl rfl) e, c⟩
  | dT kvs =>
    obtain ⟨z, y, xs, r, ob, es, ep, e, c⟩ := x
    exact ⟨z, y, xs, Paired.mapP r fun p q z => ⟨z.1, ht _ _ z.2.1, z.2.2⟩, ob, es, ep, k _ _ (.inl rfl) e, c⟩
  | set S n => obtain ⟨ob, es, ep, t, e, c⟩ := x; exact ⟨ob, es, ep, t, k _ _ (.inl rfl) e, c⟩
  | ins C dx fs =>
    obtain ⟨d, z, ne, e, mA, ⟨od, es, ep, e2, c⟩, r⟩ := x
    exact ⟨ho _ d, z, ne, k _ _ (.inl rfl) e, mA, ⟨od, es, ep, k _ _ (.inr d) e2, c⟩, r⟩
  | own y => obtain ⟨ob, e⟩ := x; exact ⟨ob, k _ _ (.inl rfl) e⟩
  | xd fs => obtain ⟨mA, ⟨od, es, ep, e, c⟩, r⟩ := x; exact ⟨mA, ⟨od, es, ep, k _ _ (.inl rfl) e, c⟩, r⟩
  | rng lo hi => obtain ⟨t, u, v, e⟩ := x; exact ⟨t, u, v, k _ _ (.inl rfl) e⟩
  | frz ob u ih => obtain ⟨e, q⟩ := x; exact ⟨k _ _ (.inl rfl) e, ih q⟩
  | tbl ps =>
    have e : h.get? a = some { cls := .none, data := .fields ps } := x
    show h'.get? a = some { cls := .none, data := .fields ps }
    exact k a _ (.inl rfl) e
  | met f y =>
    have e : h.get? a = some (PySem.W.methodObj (.ref f) (.ref y)) := x
    show h'.get? a = some (PySem.W.methodObj (.ref f) (.ref y))
    exact k a _ (.inl rfl) e
  | ext φ => obtain ⟨p, ⟨o, e⟩, st⟩ := x; exact ⟨st _ _ p fun o q => k _ _ (.inl rfl) q, ⟨o, k _ _ (.inl rfl) e⟩, st⟩
theorem HOk.lt (x : HOk P w H h) (e : H a = some o) : a < h.objs.size := (x a o e).lt
theorem HOk.fresh (x : HOk P w H h) (e : h.objs.size ≤ a) : H a = none := by
  cases q : H a with
  | none => rfl
  | some u => exact absurd (Nat.lt_of_lt_of_le (x.lt q) e) (Nat.lt_irrefl _)
theorem HOk.kept (x : HOk P w H h) (k : ∀ b u, h.get? b = some u → h'.get? b = some u) : HOk P w H h' := fun a o e =>
  (x a o e).stay (fun b u _ q => k b u q) (fun _ q => q) fun _ _ q => q
theorem HOk.laid (x : HOk P w H h) (k : ∀ b u, h.get? b = some u → h'.get? b = some u) (hp : h.objs.size ≤ a) (new : ObjOk P w (upd H a o) h' a o) : HOk P w (upd H a o) h' := fun b u e => by
  have hn := x.fresh hp
  by_cases hb : b = a
  · subst hb; rw [upd_same] at e; cases e; exact new
  · rw [upd_ne hb] at e
    exact (x b u e).stay (fun c v _ q => k c v q) (fun c q => by rw [upd_ne (ne_of_none q hn)]; exact q) fun c xs q => by rw [upd_ne (ne_of_none q hn)]; exact q
end
def Rd (H : Hp) (a : Addr) (u : HO) : Prop := H a = some u ∨ ∃ o, H a = some (.frz o u)
theorem Rd.ok {P : Program} {w : World} {H : Hp} {h : Heap} {a : Addr} {u : HO} (r : Rd H a u) (x : HOk P w H h) : ObjOk P w H h a u := by
  rcases r with r | ⟨o, r⟩
  · exact x a u r
  · obtain ⟨_, q⟩ := x a _ r
    exact q
def Mut : Option HO → Prop
  | some (.lst _) => True
  | some (.dK _) => True
  | some (.dT _) => True
  | some (.set _ _) => True
  | some (.ins _ _ _) => True
  | some (.ext _) => True
  | _ => False
section
variable {P : Program} {w : World} {H : Hp} {h h' : Heap} {x e : Addr} {o' : HO}
theorem HOk.write (ok : HOk P w H h) (mu : Mut (H x)) (he : e = x ∨ H e = some (.own x)) (k : ∀ b u, b ≠ e → h.get? b = some u → h'.get? b = some u) (heo : ∃ u, h'.get? e = some u)
    (new : ObjOk P w (upd H x o') h' x o') : HOk P w (upd H x o') h' := fun b u q => by
  have nown : ∀ c y, H c = some (.own y) → c ≠ x := fun c y r z => by subst z; rw [r] at mu; exact mu
  have ntup : ∀ c xs, H c = some (.tup xs) → c ≠ x := fun c xs r z => by subst z; rw [r] at mu; exact mu
  by_cases hb : b = x
  · subst hb; rw [upd_same] at q; cases q; exact new
  · rw [upd_ne hb] at q
    by_cases hbe : b = e
    · have q' : H b = some (.own x) := by
        rcases he with z | z
        · exact absurd (hbe.trans z) hb
        · rw [hbe]; exact z
      rw [q] at q'; cases q'
      obtain ⟨v, hv⟩ := heo
      exact ⟨v, by rw [hbe]; exact hv⟩
    · refine (ok b u q).stay (fun c v hc r => k c v ?_ r) (fun c r => by rw [upd_ne (nown c b r)]; exact r) fun c xs r => by rw [upd_ne (ntup c xs r)]; exact r
      rcases hc with rfl | hc
      · exact hbe
      · rintro rfl
        rcases he with z | z
        · exact nown c b hc z
        · rw [hc] at z; cases z; exact hb rfl
end
structure Un (fs ex : List Addr) (H H' : Hp) (h h' : Heap) : Prop where
  keep : ∀ b o, h.get? b = some o → H b = none → b ∉ fs → b ∉ ex → h'.get? b = some o
  slot : ∀ b o, h.get? b = some o → H b = none → b ∈ fs → b ∉ ex → ∃ sl, h'.get? b = some { o with slots := sl }
  free : ∀ b o, h.get? b = some o → H b = none → b ∉ ex → H' b = none
  there : ∀ b o, h.get? b = some o → b ∉ ex → ∃ o', h'.get? b = some o'
  tups : ∀ b xs, H b = some (.tup xs) → H' b = some (.tup xs)
  frzs : ∀ b o u, H b = some (.frz o u) → H' b = some (.frz o u)
  tbls : ∀ b ps, H b = some (.tbl ps) → ∃ more, H' b = some (.tbl (ps ++ more))
section
variable {fs fs' ex ex' : List Addr} {H H1 H2 : Hp} {h h1 h2 h' : Heap} {a x e : Addr} {o : HO}
theorem Un.any (u : Un fs ex H H1 h h1) {b : Addr} {ob : Obj} (q : h.get? b = some ob) (n : H b = none) (hx : b ∉ ex) : ∃ sl, h1.get? b = some { ob with slots := sl } := by
  by_cases hb : b ∈ fs
  · exact u.slot b ob q n hb hx
  · exact ⟨ob.slots, u.keep b ob q n hb hx⟩
theorem Un.kept (k : ∀ b u, h.get? b = some u → h'.get? b = some u) : Un fs ex H H h h' :=
  ⟨fun b ob q _ _ _ => k b ob q, fun b ob q _ _ _ => ⟨ob.slots, k b ob q⟩, fun _ _ _ n _ => n, fun b ob q _ => ⟨ob, k b ob q⟩, fun _ _ q => q, fun _ _ _ q => q, fun _ ps q => ⟨#[], by rw [q]; simp⟩⟩
theorem Un.refl : Un fs ex H H h h := Un.kept fun _ _ q => q
theorem Un.laid (k : ∀ b u, h.get? b = some u → h'.get? b = some u) (hp : h.objs.size ≤ a) (hn : H a = none) : Un fs ex H (upd H a o) h h' where
  keep := fun b u q _ _ _ => k b u q
  slot := fun b u q _ _ _ => ⟨u.slots, k b u q⟩
  free := fun b u q n _ => by rw [upd_ne (Nat.ne_of_lt (Nat.lt_of_lt_of_le (Heap.lt_size q) hp))]; exact n
  there := fun b u q _ => ⟨u, k b u q⟩
  tups := fun b xs q => by rw [upd_ne (ne_of_none q hn)]; exact q
  frzs := fun b u xs q => by rw [upd_ne (ne_of_none q hn)]; exact q
  tbls := fun b ps q => ⟨#[], by rw [upd_ne (ne_of_none q hn), q]; simp⟩
theorem Un.write (mu : Mut (H x)) (he : e = x ∨ H e = some (.own x)) (k : ∀ b u, b ≠ e → h.get? b = some u → h'.get? b = some u) (heo : ∃ u, h'.get? e = some u) : Un fs ex H (upd H x o) h h' := by
  have hx : ∀ b, H b = none → b ≠ x := fun b n z => by subst z; rw [n] at mu; exact mu
  have hb : ∀ b, H b = none → b ≠ e := fun b n z => by
    subst z
    rcases he with r | r
    · exact hx b n r
    · rw [n] at r; cases r
  have hm : ∀ b u, H b = some u → ¬ Mut (some u) → b ≠ x := fun b u q nm z => by subst z; rw [q] at mu; exact nm mu
  refine ⟨fun b u q n _ _ => k b u (hb b n) q, fun b u q n _ _ => ⟨u.slots, k b u (hb b n) q⟩, fun b u q n _ => by rw [upd_ne (hx b n)]; exact n, fun b u q _ => ?_,
    fun b xs q => by rw [upd_ne (hm b _ q fun z => z)]; exact q, fun b u xs q => by rw [upd_ne (hm b _ q fun z => z)]; exact q, fun b ps q => ⟨#[], by rw [upd_ne (hm b _ q fun z => z), q]; simp⟩⟩
  by_cases hbe : b = e
  · subst hbe; exact heo
  · exact ⟨u, k b u hbe q⟩
end
def trk (h : Heap) (H : Hp) : List Addr := (List.range h.objs.size).filter fun a => (H a).isSome
def hidT (h : Heap) (H : Hp) : Heap := PySem.W.hideAll h (trk h H)
theorem hidT_size (h : Heap) (H : Hp) : (hidT h H).objs.size = h.objs.size := PySem.W.hideAll_size _ _
theorem hidT_get {h : Heap} {H : Hp} {b : Addr} {o : Obj} (e : h.get? b = some o) (n : H b = none) : (hidT h H).get? b = some o :=
  PySem.W.hideAll_get _ e fun hm => by
    have q : (H b).isSome = true := (List.mem_filter.mp hm).2
    rw [n] at q; simp at q
theorem of_hidT {h : Heap} {H : Hp} {b : Addr} {o : Obj} (e : (hidT h H).get? b = some o) : h.get? b = some o ∧ H b = none := by
  have e' : h.get? b = some o := PySem.W.of_hideAll (trk h H) e
  refine ⟨e', ?_⟩
  cases q : H b with
  | none => rfl
  | some x =>
    have hm : b ∈ trk h H := List.mem_filter.mpr ⟨List.mem_range.mpr (Heap.lt_size e'), by simp [q]⟩
    have z : (hidT h H).get? b = none := PySem.W.hideAll_none (trk h H) hm
    rw [z] at e; cases e
def allNews (g h : Heap) (L : Addr) : List (Addr × Obj) := (List.range h.objs.size).filterMap fun a => if a = L ∨ (g.get? a).isSome = true then none else (h.get? a).map fun o => (a, o)
def rest (g h : Heap) (L d : Addr) : List (Addr × Obj) := (allNews g h L).filter fun p => decide (p.1 ≠ d)
end L2
namespace L2
open PySem PySem.Spec PyProof.Rows
structure Mod (K : PySem.W.Frag) (mg : Str → Option Value) (base : Heap) : Prop where
  kin : K.In base
  glob : base.Ns mainGlobals mg
  blt : ∃ mb, base.Ns builtinsNs mb ∧ ∀ x : Str, x ≠ "__name__" → mb x = bootBuiltins x
  nolimit : base.NoLimit
structure Cx where
  prog : Program
  w : World
  K : PySem.W.Frag
  mg : Str → Option Value
  base : Heap
  A : Around
  N : List Str
  s_0 : Shared
  H_0 : Hp
  env : Env
  outer : List Env
  stack : List Env
  ex : List Addr
  fn : Str → Bool
  calm : Bool
  pn : List (Addr × Obj)
  xe : Value → Shared → Prop
def frs (l : List Env) : List Addr := l.filterMap (·.frame)
abbrev Cx.fs (X : Cx) : List Addr := frs X.outer
def Vis (sc : Scope) (x : Str) : Prop := sc.names.lookup x = some .local ∨ sc.names.lookup x = some .cell ∨ sc.names.lookup x = some .free
def Loc (sc : Scope) (x : Str) : Prop := sc.names.lookup x = some .local ∨ sc.names.lookup x = some .cell
def Look (env : Env) (h : Heap) (m : Str → Option Value) (x : Str) (u : Value) : Prop :=
  (env.kindOf x = some .local ∧ m x = some u) ∨ ((env.kindOf x = some .cell ∨ env.kindOf x = some .free) ∧ ∃ c, env.cells.lookup x = some c ∧ h.IsCell c (some u))
structure Cx.Ok (X : Cx) : Prop where
  mod : Mod X.K X.mg X.base
  kind : X.env.scope.kind = .function
  glob : X.env.globals = mainGlobals
  blt : X.env.builtins = builtinsNs
  above : X.s_0.heap.objs.size ≤ X.env.locals
  inj : ∀ x y c, X.env.cells.lookup x = some c → X.env.cells.lookup y = some c → x = y
  has : ∀ x, (X.env.kindOf x = some .cell ∨ X.env.kindOf x = some .free) → ∃ c, X.env.cells.lookup x = some c
  cab : ∀ x c, X.fn x = true → X.env.cells.lookup x = some c → X.s_0.heap.objs.size ≤ c
  hd : X.calm = true → X.A.handled = none
  frames : X.A.frames = some X.stack
  stk : X.stack = X.outer ∨ (X.stack = X.env :: X.outer ∧ X.env.frame = some X.env.locals)
  exf : ∀ b ∈ X.ex, b ≠ X.env.locals ∧ ∀ x c, X.env.cells.lookup x = some c → c ≠ b
  bs : ∀ b o, X.base.get? b = some o → X.s_0.heap.get? b = some o ∧ X.H_0 b = none
  bsz : X.base.objs.size ≤ X.s_0.heap.objs.size
  noex : ∀ b o, X.base.get? b = some o → b ∉ X.ex
  exfs : ∀ b ∈ X.ex, b ∉ X.fs
  funs : X.s_0.heap.FunFrames X.base X.outer
  frf : ∀ b ∈ X.fs, X.H_0 b = none
structure Inv (X : Cx) (pins : List (Addr × Obj)) (σ : List (Option V)) (H : Hp) (s : Shared) : Prop where
  ok : X.Ok
  os : s.os = X.s_0.os
  bare : AllBare s.gens
  base : Un X.fs X.ex X.H_0 H X.s_0.heap s.heap
  loc : ∃ m, s.heap.Ns X.env.locals m ∧ ∀ (i : Nat) (x : Str) (v : V), X.N[i]? = some x → σ[i]? = some (some v) → Vis X.env.scope x → ∃ u, RelV v u ∧ Look X.env s.heap m x u
  cell : ∀ x c, X.env.cells.lookup x = some c → ∃ v, s.heap.IsCell c v
  free : H X.env.locals = none
  freeC : ∀ x c, X.env.cells.lookup x = some c → H c = none
  pin : ∀ p ∈ X.pn ++ pins, s.heap.get? p.1 = some p.2 ∧ H p.1 = none ∧ p.1 ≠ X.env.locals ∧ p.1 ∉ X.fs ∧ ∀ v, p.2.data ≠ .cell v
  hok : HOk X.prog X.w H s.heap
  len : σ.length = X.N.length
section
variable {X : Cx} {pins : List (Addr × Obj)} {σ : List (Option V)} {H H' : Hp} {s : Shared} {h' : Heap}
theorem Cx.Ok.nofr (ok : X.Ok) {b : Addr} {o : Obj} (e : X.base.get? b = some o) : b ∉ X.fs := fun hb => by
  have := (ok.funs.mem hb).1
  rw [e] at this; cases this
theorem Inv.bs (I : Inv X pins σ H s) : ∀ b o, X.base.get? b = some o → s.heap.get? b = some o ∧ H b = none := fun b o e =>
  ⟨I.base.keep b o (I.ok.bs b o e).1 (I.ok.bs b o e).2 (I.ok.nofr e) (I.ok.noex b o e), I.base.free b o (I.ok.bs b o e).1 (I.ok.bs b o e).2 (I.ok.noex b o e)⟩
theorem Inv.bk (I : Inv X pins σ H s) : ∀ b o, X.base.get? b = some o → s.heap.get? b = some o := fun b o e => (I.bs b o e).1
theorem Inv.mod (I : Inv X pins σ H s) : Mod X.K X.mg X.base := I.ok.mod
theorem Inv.kIn (I : Inv X pins σ H s) : X.K.In s.heap := I.ok.mod.kin.keeps I.bk
theorem Inv.fr (I : Inv X pins σ H s) : ∃ m, Fr X.base X.env.locals s.heap m :=
  let ⟨m, hn, _⟩ := I.loc
  ⟨m, hn, I.bk, Nat.le_trans I.ok.bsz I.ok.above⟩
theorem Inv.lt (I : Inv X pins σ H s) : X.env.locals < s.heap.objs.size := let ⟨_, hn, _⟩ := I.loc; hn.lt
theorem Inv.sz (I : Inv X pins σ H s) : X.s_0.heap.objs.size ≤ s.heap.objs.size := Nat.le_trans I.ok.above (Nat.le_of_lt I.lt)
theorem Inv.nofs (I : Inv X pins σ H s) {a : Addr} (h : s.heap.objs.size ≤ a) : a ∉ X.fs := fun hb => by
  obtain ⟨_, o, ho, _⟩ := I.ok.funs.mem hb
  exact absurd (Nat.lt_of_lt_of_le (Heap.lt_size ho) (Nat.le_trans I.sz h)) (Nat.lt_irrefl _)
theorem Inv.cne (I : Inv X pins σ H s) : ∀ x c, X.env.cells.lookup x = some c → c ≠ X.env.locals := fun x c e z => by
  obtain ⟨v, o, ho, hd⟩ := I.cell x c e
  obtain ⟨m, ⟨o', es, ep, ho', hd', _⟩, _⟩ := I.loc
  rw [z, ho'] at ho; cases ho; rw [hd'] at hd; cases hd
theorem Inv.funs (I : Inv X pins σ H s) : s.heap.FunFrames X.base X.outer := by
  have all : ∀ (l : List Env), (∀ b ∈ frs l, b ∈ X.fs) → X.s_0.heap.FunFrames X.base l → s.heap.FunFrames X.base l := by
    intro l
    induction l with
    | nil => intro _ _; trivial
    | cons env r ih =>
      intro hs hl
      obtain ⟨hk, ⟨L, o, hf, hn, ho, hd⟩, hr⟩ := hl
      have hL : L ∈ X.fs := hs L (by unfold frs; rw [List.filterMap_cons, hf]; exact List.mem_cons_self)
      obtain ⟨sl, e⟩ := I.base.slot L o ho (I.ok.frf L hL) hL fun z => I.ok.exfs L z hL
      exact ⟨hk, ⟨L, _, hf, hn, e, hd⟩, ih (fun b hb => hs b (by unfold frs; rw [List.filterMap_cons, hf]; exact List.mem_cons_of_mem _ hb)) hr⟩
  exact all X.outer (fun _ hb => hb) I.ok.funs
theorem Inv.stack (I : Inv X pins σ H s) : s.heap.FunFrames X.base X.stack := by
  rcases I.ok.stk with e | ⟨e, hf⟩
  · rw [e]; exact I.funs
  · rw [e]
    obtain ⟨m, hn, _⟩ := I.loc
    refine .cons (by rw [I.ok.kind]; decide) hf hn ?_ I.funs
    exact Heap.get?_none_of_le (Nat.le_trans I.ok.bsz I.ok.above)
theorem Inv.stkSub (I : Inv X pins σ H s) : ∀ b ∈ frs X.stack, b ∈ X.env.locals :: X.fs := fun b hb => by
  rcases I.ok.stk with e | ⟨e, hf⟩
  · rw [e] at hb; exact List.mem_cons_of_mem _ hb
  · rw [e] at hb
    unfold frs at hb
    rw [List.filterMap_cons, hf] at hb
    exact hb
theorem Inv.stkFree (I : Inv X pins σ H s) : ∀ b ∈ frs X.stack, H b = none := fun b hb => by
  rcases List.mem_cons.mp (I.stkSub b hb) with e | hb
  · rw [e]; exact I.free
  · obtain ⟨_, o, ho, _⟩ := I.ok.funs.mem hb
    exact I.base.free b o ho (I.ok.frf b hb) fun z => I.ok.exfs b z hb
theorem Inv.step {g' : Array GenState} {t' : Nat} {d' : Drawn} {ch : List Addr} (I : Inv X pins σ H s)
    (hch : ∀ b ∈ ch, (b ∈ X.ex ∨ X.s_0.heap.objs.size ≤ b) ∧ b ≠ X.env.locals ∧ (∀ x c, X.env.cells.lookup x = some c → c ≠ b) ∧ ∀ p ∈ X.pn ++ pins, p.1 ≠ b)
    (keep : ∀ b o, b ≠ X.env.locals → b ∉ X.fs → b ∉ ch → s.heap.get? b = some o → H b = none → h'.get? b = some o)
    (slot : ∀ b o, b ≠ X.env.locals → b ∈ X.fs → b ∉ ch → s.heap.get? b = some o → H b = none → ∃ sl, h'.get? b = some { o with slots := sl }) (free : ∀ b o, b ∉ ch → s.heap.get? b = some o → H b = none → H' b = none)
    (there : ∀ b o, b ∉ ch → s.heap.get? b = some o → ∃ o', h'.get? b = some o')
    (tups : ∀ b xs, H b = some (.tup xs) → H' b = some (.tup xs)) (frzs : ∀ b o u, H b = some (.frz o u) → H' b = some (.frz o u)) (tbls : ∀ b ps, H b = some (.tbl ps) → ∃ more, H' b = some (.tbl (ps ++ more)))
    (ns : ∀ m, s.heap.Ns X.env.locals m → h'.Ns X.env.locals m) (hok : HOk X.prog X.w H' h') (hg : AllBare g') :
    Inv X pins σ H' { s with heap := h', gens := g', drawn := d', toks := t' } := by
  have neL : ∀ b o, X.s_0.heap.get? b = some o → b ≠ X.env.locals := fun b o e => Nat.ne_of_lt (Nat.lt_of_lt_of_le (Heap.lt_size e) I.ok.above)
  have neC : ∀ b o, X.s_0.heap.get? b = some o → b ∉ X.ex → b ∉ ch := fun b o e hx hb => by
    rcases (hch b hb).1 with z | z
    · exact hx z
    · exact absurd (Nat.lt_of_lt_of_le (Heap.lt_size e) z) (Nat.lt_irrefl _)
  have cellK : ∀ x c, X.env.cells.lookup x = some c → ∀ v, s.heap.IsCell c v → h'.IsCell c v := fun x c e v ⟨o, ho, hd⟩ => by
    have nch : c ∉ ch := fun z => (hch c z).2.2.1 x c e rfl
    by_cases hc : c ∈ X.fs
    · obtain ⟨sl, q⟩ := slot c o (I.cne x c e) hc nch ho (I.freeC x c e)
      exact ⟨_, q, hd⟩
    · exact ⟨o, keep c o (I.cne x c e) hc nch ho (I.freeC x c e), hd⟩
  refine ⟨I.ok, I.os, hg, ⟨fun b o e n hb hx => ?_, fun b o e n hb hx => ?_, fun b o e n hx => ?_, fun b o e hx => ?_, fun b xs e => tups b xs (I.base.tups b xs e), fun b o xs e => frzs b o xs (I.base.frzs b o xs e), fun b ps e => ?_⟩, ?_, fun x c e => ?_, ?_, fun x c e => ?_, fun p hp => ?_, hok, I.len⟩
  · exact keep b o (neL b o e) hb (neC b o e hx) (I.base.keep b o e n hb hx) (I.base.free b o e n hx)
  · obtain ⟨sl, e1⟩ := I.base.slot b o e n hb hx
    obtain ⟨sl', e2⟩ := slot b _ (neL b o e) hb (neC b o e hx) e1 (I.base.free b o e n hx)
    exact ⟨sl', e2⟩
  · obtain ⟨o', e1⟩ := I.base.there b o e hx
    exact free b o' (neC b o e hx) e1 (I.base.free b o e n hx)
  · obtain ⟨o', e1⟩ := I.base.there b o e hx
    exact there b o' (neC b o e hx) e1
  · obtain ⟨m1, e1⟩ := I.base.tbls b ps e
    obtain ⟨m2, e2⟩ := tbls b _ e1
    exact ⟨m1 ++ m2, by rw [e2, Array.append_assoc]⟩
  · obtain ⟨m, hn, hl⟩ := I.loc
    refine ⟨m, ns m hn, fun i x v e1 e2 e3 => ?_⟩
    obtain ⟨u, r, l⟩ := hl i x v e1 e2 e3
    refine ⟨u, r, ?_⟩
    rcases l with l | ⟨k, c, e, z⟩
    · exact .inl l
    · exact .inr ⟨k, c, e, cellK x c e _ z⟩
  · obtain ⟨v, z⟩ := I.cell x c e
    exact ⟨v, cellK x c e v z⟩
  · obtain ⟨m, ⟨o, _, _, ho, _⟩, _⟩ := I.loc
    exact free _ o (fun z => (hch _ z).2.1 rfl) ho I.free
  · obtain ⟨v, o, ho, hd⟩ := I.cell x c e
    exact free c o (fun z => (hch c z).2.2.1 x c e rfl) ho (I.freeC x c e)
  · obtain ⟨e, n, ne, nf, d⟩ := I.pin p hp
    have nch : p.1 ∉ ch := fun z => (hch p.1 z).2.2.2 p hp rfl
    exact ⟨keep p.1 p.2 ne nf nch e n, free p.1 p.2 nch e n, ne, nf, d⟩
theorem Inv.un {t' : Nat} (I : Inv X pins σ H s) (u : Un X.fs [] H H' s.heap h') (hok : HOk X.prog X.w H' h') : Inv X pins σ H' { s with heap := h', toks := t' } := by
  obtain ⟨m, ⟨o, es, ep, ho, r⟩, _⟩ := id I.loc
  obtain ⟨sl, hL⟩ := u.any ho I.free (by simp)
  exact I.step (g' := s.gens) (d' := s.drawn) (ch := []) (fun _ z => nomatch z) (fun b o _ hb _ e n => u.keep b o e n hb (by simp)) (fun b o _ hb _ e n => u.slot b o e n hb (by simp)) (fun b o _ e n => u.free b o e n (by simp)) (fun b o _ e => u.there b o e (by simp)) u.tups u.frzs u.tbls (fun m' hm => by
    obtain ⟨o', es', ep', ho', r'⟩ := hm
    rw [ho] at ho'; cases ho'
    exact ⟨_, es', ep', hL, r'⟩) hok I.bare
theorem Inv.call {g' : Array GenState} {t' : Nat} {d' : Drawn} {ch : List Addr} (I : Inv X pins σ H s) (u : Un (frs X.stack) ch H H' s.heap h') (hok : HOk X.prog X.w H' h') (hg : AllBare g')
    (hch : ∀ b ∈ ch, (b ∈ X.ex ∨ X.s_0.heap.objs.size ≤ b) ∧ b ≠ X.env.locals ∧ (∀ x c, X.env.cells.lookup x = some c → c ≠ b) ∧ ∀ p ∈ X.pn ++ pins, p.1 ≠ b) :
    Inv X pins σ H' { s with heap := h', gens := g', drawn := d', toks := t' } := by
  obtain ⟨m, ⟨o, es, ep, ho, r⟩, _⟩ := id I.loc
  obtain ⟨sl, hL⟩ := u.any ho I.free fun z => (hch _ z).2.1 rfl
  exact I.step (ch := ch) hch (fun b o hL hb hc e n => u.keep b o e n (fun z => (List.mem_cons.mp (I.stkSub b z)).elim hL hb) hc) (fun b o _ _ hc e n => u.any e n hc) (fun b o hc e n => u.free b o e n hc) (fun b o hc e => u.there b o e hc) u.tups u.frzs u.tbls (fun m' hm => by
    obtain ⟨o', es', ep', ho', r'⟩ := hm
    rw [ho] at ho'; cases ho'
    exact ⟨_, es', ep', hL, r'⟩) hok hg
theorem Inv.turned {t' : Nat} {it : Addr} (I : Inv X pins σ H s) (k : ∀ b o, b ≠ it → s.heap.get? b = some o → h'.get? b = some o) (hn : H it = none) (hL : it ≠ X.env.locals)
    (h1 : it ∈ X.ex ∨ X.s_0.heap.objs.size ≤ it) (h2 : ∀ x c, X.env.cells.lookup x = some c → c ≠ it) (h3 : ∀ p ∈ X.pn ++ pins, p.1 ≠ it) : Inv X pins σ H { s with heap := h', toks := t' } := by
  have nit : ∀ b u, H b = some u → b ≠ it := fun b u e z => by rw [z, hn] at e; cases e
  refine I.step (g' := s.gens) (d' := s.drawn) (ch := [it]) (fun b hb => ?_) (fun b o _ _ hc e _ => k b o (fun z => hc (by simp [z])) e) (fun b o _ _ hc e _ => ⟨o.slots, k b o (fun z => hc (by simp [z])) e⟩) (fun _ _ _ _ n => n)
    (fun b o hc e => ⟨o, k b o (fun z => hc (by simp [z])) e⟩) (fun _ _ e => e) (fun _ _ _ e => e) (fun b ps e => ⟨#[], by rw [e]; simp⟩) (fun m hm => ?_) (fun b u e => ?_) I.bare
  · have e : b = it := by simpa using hb
    subst e
    exact ⟨h1, hL, h2, h3⟩
  · obtain ⟨o, es, ep, ho, r⟩ := hm
    exact ⟨o, es, ep, k _ o (Ne.symm hL) ho, r⟩
  · refine (I.hok b u e).stay (fun c v hc q => k c v ?_ q) (fun _ q => q) fun _ _ q => q
    rcases hc with z | z
    · rw [z]; exact nit b u e
    · exact nit c _ z
theorem Inv.tok (I : Inv X pins σ H s) (t : Nat) : Inv X pins σ H { s with toks := t } := I.un (h' := s.heap) (t' := t) Un.refl I.hok
theorem Inv.kept {t' : Nat} (I : Inv X pins σ H s) (k : ∀ b u, s.heap.get? b = some u → h'.get? b = some u) : Inv X pins σ H { s with heap := h', toks := t' } := I.un (Un.kept k) (I.hok.kept k)
theorem Inv.laid {a : Addr} {o : HO} {t' : Nat} (I : Inv X pins σ H s) (k : ∀ b u, s.heap.get? b = some u → h'.get? b = some u) (hp : s.heap.objs.size ≤ a) (new : ObjOk X.prog X.w (upd H a o) h' a o) :
    Inv X pins σ (upd H a o) { s with heap := h', toks := t' } := I.un (Un.laid k hp (I.hok.fresh hp)) (I.hok.laid k hp new)
theorem Inv.write {x e : Addr} {o : HO} {t' : Nat} (I : Inv X pins σ H s) (mu : Mut (H x)) (he : e = x ∨ H e = some (.own x)) (k : ∀ b u, b ≠ e → s.heap.get? b = some u → h'.get? b = some u) (heo : ∃ u, h'.get? e = some u)
    (new : ObjOk X.prog X.w (upd H x o) h' x o) : Inv X pins σ (upd H x o) { s with heap := h', toks := t' } := I.un (Un.write mu he k heo) (I.hok.write mu he k heo new)
theorem Inv.weak {σ' : List (Option V)} (I : Inv X pins σ H s) (hl : σ'.length = σ.length) (w : ∀ (i : Nat) v, σ'[i]? = some (some v) → σ[i]? = some (some v)) : Inv X pins σ' H s :=
  ⟨I.ok, I.os, I.bare, I.base, let ⟨m, hn, hl'⟩ := I.loc; ⟨m, hn, fun i x v e1 e2 e3 => hl' i x v e1 (w i v e2) e3⟩, I.cell, I.free, I.freeC, I.pin, I.hok, hl.trans I.len⟩
theorem Inv.pins_of {pins' : List (Addr × Obj)} (I : Inv X pins σ H s) (h : ∀ p ∈ pins', s.heap.get? p.1 = some p.2 ∧ H p.1 = none ∧ p.1 ≠ X.env.locals ∧ p.1 ∉ X.fs ∧ ∀ v, p.2.data ≠ .cell v) : Inv X pins' σ H s :=
  ⟨I.ok, I.os, I.bare, I.base, I.loc, I.cell, I.free, I.freeC, fun p hp => (List.mem_append.mp hp).elim (fun z => I.pin p (List.mem_append_left _ z)) (h p), I.hok, I.len⟩
theorem nodup_ix {N : List Str} (hN : N.Nodup) {i j : Nat} {x : Str} (a : N[i]? = some x) (b : N[j]? = some x) : i = j := by
  obtain ⟨h1, e1⟩ := List.getElem?_eq_some_iff.mp a
  obtain ⟨h2, e2⟩ := List.getElem?_eq_some_iff.mp b
  exact (List.getElem_inj hN).mp (e1.trans e2.symm)
theorem store_ok2 {M : Model} {A : Around} {E : Value → Shared → Prop} {i : Nat} {x : Str} {v : V} {u : Value} {Q : Unit → Shared → Prop} (I : Inv X pins σ H s) (hN : X.N.Nodup) (hi : X.N[i]? = some x) (hx : Loc X.env.scope x) (r : RelV v u)
    (h : ∀ s', Inv X pins (σ.set i (some v)) H s' → (∃ a, Heap.SameBut a s.heap s'.heap ∧ (a = X.env.locals ∨ X.env.cells.lookup x = some a)) → Q () s') (hf : X.fn x = true ∨ X.env.scope.names.lookup x = some .local := by first | exact .inl rfl | exact .inr rfl | assumption) : wpAny M A (storeName X.env x u) Q E s := by
  obtain ⟨m, hn, hl⟩ := id I.loc
  have hcls : (X.env.scope.kind == .class || (X.env.scope.kind == .module && X.env.locals != X.env.globals)) = false := by rw [I.ok.kind]; rfl
  have hiσ : i < σ.length := by rw [I.len]; exact (List.getElem?_eq_some_iff.mp hi).1
  have cne := I.cne
  have tracked : ∀ {a : Addr} {h' : Heap}, (∃ o, s.heap.get? a = some o ∧ H a = none) → Heap.SameBut a s.heap h' → HOk X.prog X.w H h' := fun {a h'} ha hs b ob e => by
    obtain ⟨_, _, hfree⟩ := ha
    refine (I.hok b ob e).stay (fun c w' hc q => (hs.2 c ?_).trans q) (fun _ q => q) fun _ _ q => q
    rintro rfl
    rcases hc with rfl | hc
    · rw [hfree] at e; cases e
    · rw [hfree] at hc; cases hc
  rcases hx with hk | hk
  · refine wpAny_storeName_local hk hn (fun h' hn' hs => ?_) hcls
    obtain ⟨oL, _, _, hoL, _⟩ := id hn
    refine h _ ⟨I.ok, I.os, I.bare, ⟨fun b o e n hb hx => ?_, fun b o e n hb hx => ?_, I.base.free, fun b o e hx => ?_, I.base.tups, I.base.frzs, I.base.tbls⟩, ⟨_, hn', fun j y v' e1 e2 e3 => ?_⟩, fun y c e => ?_, I.free, I.freeC, fun p hp => ?_, tracked ⟨oL, hoL, I.free⟩ hs, by simpa using I.len⟩ ⟨_, hs, .inl rfl⟩
    · exact (hs.2 b (Nat.ne_of_lt (Nat.lt_of_lt_of_le (Heap.lt_size e) I.ok.above))).trans (I.base.keep b o e n hb hx)
    · obtain ⟨sl, e1⟩ := I.base.slot b o e n hb hx
      exact ⟨sl, (hs.2 b (Nat.ne_of_lt (Nat.lt_of_lt_of_le (Heap.lt_size e) I.ok.above))).trans e1⟩
    · obtain ⟨o', e1⟩ := I.base.there b o e hx
      exact ⟨o', (hs.2 b (Nat.ne_of_lt (Nat.lt_of_lt_of_le (Heap.lt_size e) I.ok.above))).trans e1⟩
    · by_cases hj : j = i
      · subst hj
        rw [hi] at e1; cases e1
        rw [List.getElem?_set_self hiσ] at e2
        cases e2
        exact ⟨u, r, .inl ⟨hk, by simp⟩⟩
      · rw [List.getElem?_set_ne (Ne.symm hj)] at e2
        obtain ⟨u', r', q⟩ := hl j y v' e1 e2 e3
        refine ⟨u', r', ?_⟩
        rcases q with ⟨k, e⟩ | ⟨k, c, e, z⟩
        · refine .inl ⟨k, ?_⟩
          have : y ≠ x := fun e => hj (nodup_ix hN e1 (e ▸ hi))
          simp [this, e]
        · exact .inr ⟨k, c, e, z.sameBut hs (cne y c e)⟩
    · obtain ⟨w', z⟩ := I.cell y c e
      exact ⟨w', z.sameBut hs (cne y c e)⟩
    · obtain ⟨e, n, ne, nf, d⟩ := I.pin p hp
      exact ⟨(hs.2 p.1 ne).trans e, n, ne, nf, d⟩
  · have hfn : X.fn x = true := by
      rcases hf with z | z
      · exact z
      · rw [z] at hk; cases hk
    obtain ⟨c, hc⟩ := I.ok.has x (.inl hk)
    obtain ⟨w', z⟩ := I.cell x c hc
    refine wpAny_storeName_cell I.ok.kind hk hc z (fun h' hc' hs => ?_)
    obtain ⟨oc, hoc, hocd⟩ := id z
    refine h { s with heap := h' } ⟨I.ok, I.os, I.bare, ⟨fun b o e n hb hx => ?_, fun b o e n hb hx => ?_, I.base.free, fun b o e hx => ?_, I.base.tups, I.base.frzs, I.base.tbls⟩, ⟨m, hn.sameBut hs (Ne.symm (cne x c hc)), fun j y v' e1 e2 e3 => ?_⟩, fun y c' e => ?_, I.free, I.freeC, fun p hp => ?_, tracked ⟨oc, hoc, I.freeC x c hc⟩ hs, by simpa using I.len⟩ ⟨c, hs, .inr hc⟩
    · exact (hs.2 b (Nat.ne_of_lt (Nat.lt_of_lt_of_le (Heap.lt_size e) (I.ok.cab x c hfn hc)))).trans (I.base.keep b o e n hb hx)
    · obtain ⟨sl, e1⟩ := I.base.slot b o e n hb hx
      exact ⟨sl, (hs.2 b (Nat.ne_of_lt (Nat.lt_of_lt_of_le (Heap.lt_size e) (I.ok.cab x c hfn hc)))).trans e1⟩
    · obtain ⟨o', e1⟩ := I.base.there b o e hx
      exact ⟨o', (hs.2 b (Nat.ne_of_lt (Nat.lt_of_lt_of_le (Heap.lt_size e) (I.ok.cab x c hfn hc)))).trans e1⟩
    · by_cases hj : j = i
      · subst hj
        rw [hi] at e1; cases e1
        rw [List.getElem?_set_self hiσ] at e2
        cases e2
        exact ⟨u, r, .inr ⟨.inl hk, c, hc, hc'⟩⟩
      · rw [List.getElem?_set_ne (Ne.symm hj)] at e2
        obtain ⟨u', r', q⟩ := hl j y v' e1 e2 e3
        refine ⟨u', r', ?_⟩
        rcases q with q | ⟨k, c', e, z'⟩
        · exact .inl q
        · refine .inr ⟨k, c', e, z'.sameBut hs ?_⟩
          rintro rfl
          exact hj (nodup_ix hN e1 (I.ok.inj _ _ _ e hc ▸ hi))
    · by_cases hcc : c' = c
      · subst hcc; exact ⟨_, hc'⟩
      · obtain ⟨w2, z2⟩ := I.cell y c' e
        exact ⟨w2, z2.sameBut hs hcc⟩
    · obtain ⟨e, n, ne, nf, d⟩ := I.pin p hp
      refine ⟨(hs.2 p.1 ?_).trans e, n, ne, nf, d⟩
      intro q
      rw [q, hoc] at e
      have q' : oc = p.2 := Option.some.inj e
      exact d w' (by rw [← q']; exact hocd)
theorem store_ok {M : Model} {A : Around} {E : Value → Shared → Prop} {i : Nat} {x : Str} {v : V} {u : Value} {Q : Unit → Shared → Prop} (I : Inv X pins σ H s) (hN : X.N.Nodup) (hi : X.N[i]? = some x) (hx : Loc X.env.scope x) (r : RelV v u)
    (h : ∀ s', Inv X pins (σ.set i (some v)) H s' → Q () s') (hf : X.fn x = true ∨ X.env.scope.names.lookup x = some .local := by first | exact .inl rfl | exact .inr rfl | assumption) : wpAny M A (storeName X.env x u) Q E s :=
  store_ok2 I hN hi hx r (fun s' I' _ => h s' I') hf
theorem Inv.call' {s' : Shared} {ch : List Addr} (I : Inv X pins σ H s) (ho : s'.os = s.os) (u : Un (frs X.stack) ch H H' s.heap s'.heap) (hok : HOk X.prog X.w H' s'.heap) (hg : AllBare s'.gens)
    (hch : ∀ b ∈ ch, (b ∈ X.ex ∨ X.s_0.heap.objs.size ≤ b) ∧ b ≠ X.env.locals ∧ (∀ x c, X.env.cells.lookup x = some c → c ≠ b) ∧ ∀ p ∈ X.pn ++ pins, p.1 ≠ b) : Inv X pins σ H' s' := by
  obtain ⟨h', g', d', t', o'⟩ := s'
  have e : o' = s.os := ho
  subst e
  exact I.call (g' := g') (t' := t') (d' := d') u hok hg hch
end
abbrev XK := Value → Option Addr → Hp → Prop
abbrev St := List (Option V)
abbrev VK := V → Hp → Prop
abbrev TE := St → Hp → VK → Prop
abbrev TT := St → Hp → (Bool → Hp → Prop) → Prop
abbrev TA := St → Hp → (List V → Hp → Prop) → Prop
structure Ends where
  nx : St → Hp → Prop
  rt : VK
  bk : St → Hp → Prop := fun _ _ => False
  ct : St → Hp → Prop := fun _ _ => False
abbrev TS := Ends → St → Hp → Prop
def EP (X : Cx) (pins : List (Addr × Obj)) (σ : St) (Q : VK) (u : Value) (s' : Shared) : Prop := ∃ v H', Inv X pins σ H' s' ∧ RelV v u ∧ Q v H'
def TP (X : Cx) (pins : List (Addr × Obj)) (σ : St) (Q : Bool → Hp → Prop) (b : Bool) (s' : Shared) : Prop := ∃ H', Inv X pins σ H' s' ∧ Q b H'
def AP (X : Cx) (pins : List (Addr × Obj)) (σ : St) (Q : List V → Hp → Prop) (us : List Value) (s' : Shared) : Prop := ∃ vs H', Inv X pins σ H' s' ∧ Vals vs us ∧ Q vs H'
def SP (X : Cx) (pins : List (Addr × Obj)) (D : Ends) (f : Flow) (s' : Shared) : Prop :=
  match f with
  | .next => ∃ σ' H', Inv X pins σ' H' s' ∧ D.nx σ' H'
  | .brk => ∃ σ' H', Inv X pins σ' H' s' ∧ D.bk σ' H'
  | .cont => ∃ σ' H', Inv X pins σ' H' s' ∧ D.ct σ' H'
  | .ret u => ∃ v σ' H', Inv X pins σ' H' s' ∧ RelV v u ∧ D.rt v H'
def PE (X : Cx) (e : Expr) (t : TE) : Prop :=
  ∀ (pins : List (Addr × Obj)) (s : Shared) (σ : St) (H : Hp) (Q : VK), Inv X pins σ H s → t σ H Q → wpAny (model X.prog X.w) X.A (eval e X.env) (EP X pins σ Q) X.xe s
def PT (X : Cx) (e : Expr) (t : TT) : Prop :=
  ∀ (pins : List (Addr × Obj)) (s : Shared) (σ : St) (H : Hp) (Q : Bool → Hp → Prop), Inv X pins σ H s → t σ H Q → wpAny (model X.prog X.w) X.A (isTrue e X.env (eval e X.env)) (TP X pins σ Q) X.xe s
def PW (X : Cx) (e : Expr) (t : TT) : Prop :=
  ∀ (whole : Sem Value) (pins : List (Addr × Obj)) (s : Shared) (σ : St) (H : Hp) (Q : Bool → Hp → Prop), Inv X pins σ H s → t σ H Q → wpAny (model X.prog X.w) X.A (isTrue e X.env whole) (TP X pins σ Q) X.xe s
theorem PW.pt {X : Cx} {e : Expr} {t : TT} (h : PW X e t) : PT X e t := h _
def PA (X : Cx) (es : List Expr) (t : TA) : Prop :=
  ∀ (pos : Pos) (pins : List (Addr × Obj)) (s : Shared) (σ : St) (H : Hp) (Q : List V → Hp → Prop), Inv X pins σ H s → t σ H Q → wpAny (model X.prog X.w) X.A (spliced (backTo pos (starEach es X.env))) (AP X pins σ Q) X.xe s
def PS (X : Cx) (st : Stmt) (t : TS) : Prop :=
  ∀ (pins : List (Addr × Obj)) (s : Shared) (σ : St) (H : Hp) (D : Ends), Inv X pins σ H s → t D σ H → wpAny (model X.prog X.w) X.A (exec st X.env) (SP X pins D) X.xe s
def PSs (X : Cx) (st : List Stmt) (t : TS) : Prop :=
  ∀ (pins : List (Addr × Obj)) (s : Shared) (σ : St) (H : Hp) (D : Ends), Inv X pins σ H s → t D σ H → wpAny (model X.prog X.w) X.A (execs st X.env) (SP X pins D) X.xe s
theorem thn {α : Type} {t : Sem α} {Q Q' : α → Shared → Prop} {M : Model} {A : Around} {E : Value → Shared → Prop} {s : Shared} (h : wpAny M A t Q E s) (hQ : ∀ a s, Q a s → Q' a s) : wpAny M A t Q' E s := wpAny_mono h hQ fun _ _ x => x
end L2
namespace L2
open PySem PySem.Spec PyProof.Rows
section
variable {X : Cx}
theorem bin {a b : Expr} {ta tb : TE} (ha : PE X a ta) (hb : PE X b tb) {pins : List (Addr × Obj)} {s : Shared} {σ : St} {H : Hp} {R : V → V → Hp → Prop} (I : Inv X pins σ H s) (h : ta σ H fun x H1 => tb σ H1 fun y H2 => R x y H2)
    {α : Type} {Q : α → Shared → Prop} {f : Value → Value → Sem α}
    (hf : ∀ v u s2 x y H2, Inv X pins σ H2 s2 → RelV x v → RelV y u → R x y H2 → wpAny (model X.prog X.w) X.A (f v u) Q X.xe s2) :
    wpAny (model X.prog X.w) X.A (eval a X.env) (fun v s₁ => wpAny (model X.prog X.w) X.A (eval b X.env) (fun u s₂ => wpAny (model X.prog X.w) X.A (f v u) Q X.xe s₂) X.xe s₁) X.xe s := by
  refine thn (ha pins s σ H _ I h) fun v s1 ⟨x, H1, I1, r1, q1⟩ => ?_
  refine thn (hb pins s1 σ H1 _ I1 q1) fun u s2 ⟨y, H2, I2, r2, q2⟩ => ?_
  exact hf v u s2 x y H2 I2 r1 r2 q2
def tVar (i : Nat) : TE := fun σ H Q => ∃ v, σ[i]? = some (some v) ∧ Q v H
def tC (v : V) : TE := fun _ H Q => Q v H
theorem pe_var {i : Nat} {x : Str} {pos : Pos} (hN : X.N[i]? = some x) (hv : Vis X.env.scope x) (hd : (x == ("__debug__" : Str)) = false := by decide) (hcd : (x == ("__classdict__" : Str)) = false := by decide) : PE X (.Name x pos) (tVar i) := by
  intro pins s σ H Q I h
  obtain ⟨v, e, h⟩ := h
  obtain ⟨m, hn, hl⟩ := I.loc
  obtain ⟨u, r, l⟩ := hl i x v hN e hv
  have fin : EP X pins σ Q u s := ⟨v, H, I, r, h⟩
  rcases l with ⟨hk, hm⟩ | ⟨hk, c, hc, hcell⟩
  · exact wpAny_Name (wpAny_loadName_local I.ok.kind hk hn hm fin) hd
  · rcases hk with hk | hk
    · exact wpAny_Name (wpAny_loadName_cell I.ok.kind hk hc hcell fin) hd
    · exact wpAny_Name (wpAny_loadName_free I.ok.kind hk hc hcell fin hcd) hd
theorem pe_int {i j pos} : PE X (.Constant (.int i) j pos) (tC (.int i)) := fun _ _ _ H _ I h => wpAny_Constant_int ⟨.int i, H, I.tok _, ⟨_, rfl⟩, h⟩
theorem pe_bl {b j pos} : PE X (.Constant (.bool b) j pos) (tC (.bl b)) := fun _ _ _ H _ I h => Constant_bool ⟨.bl b, H, I, rfl, h⟩
theorem pe_non {j pos} : PE X (.Constant .none j pos) (tC .non) := fun _ _ _ H _ I h => Constant_none ⟨.non, H, I, rfl, h⟩
def Gl (X : Cx) (x : Str) : Prop := X.env.kindOf x = some .globalImplicit
theorem ld_glob {E : Value → Shared → Prop} {pins : List (Addr × Obj)} {s : Shared} {σ : St} {H : Hp} {x : Str} {u : Value} {pos : Pos} {Q : Value → Shared → Prop} (I : Inv X pins σ H s) (hg : Gl X x) (hm : X.mg x = some u) (h : Q u s)
    (hd : (x == ("__debug__" : Str)) = false := by decide) : wpAny (model X.prog X.w) X.A (eval (.Name x pos) X.env) Q E s :=
  Calls.Name_function_global I.ok.kind hg (Calls.loadGlobal_global (by rw [I.ok.glob]; exact I.mod.glob.keeps I.bk) hm h) hd
theorem ld_blt {E : Value → Shared → Prop} {pins : List (Addr × Obj)} {s : Shared} {σ : St} {H : Hp} {x : Str} {u : Value} {pos : Pos} {Q : Value → Shared → Prop} (I : Inv X pins σ H s) (hg : Gl X x) (hm : X.mg x = none) (hv : bootBuiltins x = some u) (h : Q u s)
    (hn : x ≠ "__name__" := by decide) (hd : (x == ("__debug__" : Str)) = false := by decide) : wpAny (model X.prog X.w) X.A (eval (.Name x pos) X.env) Q E s := by
  obtain ⟨mb, h1, h2⟩ := I.mod.blt
  exact Calls.Name_function_global I.ok.kind hg (Calls.loadGlobal_builtin (by rw [I.ok.glob]; exact I.mod.glob.keeps I.bk) hm (by rw [I.ok.blt]; exact h1.keeps I.bk) ((h2 x hn).trans hv) h) hd
theorem pe_glob {x : Str} {v : V} {u : Value} {pos : Pos} (hg : Gl X x) (hm : X.mg x = some u) (r : RelV v u) (hd : (x == ("__debug__" : Str)) = false := by decide) : PE X (.Name x pos) (tC v) :=
  fun _ _ _ H _ I h => ld_glob I hg hm ⟨v, H, I, r, h⟩ hd
variable {a b : Expr} {ta tb : TE} {pos : Pos}
def PC (X : Cx) (op : CmpOp) (a b : Expr) (t : TE) : Prop :=
  ∀ (pins : List (Addr × Obj)) (s : Shared) (σ : St) (H : Hp) (Q : VK), Inv X pins σ H s → t σ H Q →
    wpAny (model X.prog X.w) X.A (eval a X.env) (fun v s₁ => wpAny (model X.prog X.w) X.A (eval b X.env) (fun u s₂ => wpAny (model X.prog X.w) X.A (compareOp op v u) (EP X pins σ Q) X.xe s₂) X.xe s₁) X.xe s
theorem nobehind (b : Expr) {op : CmpOp} (h : op ≠ .In) (h2 : op ≠ .NotIn) : behindInMarks op b = false := by
  have e1 : (op == CmpOp.In) = false := by cases op <;> first | rfl | exact absurd rfl h
  have e2 : (op == CmpOp.NotIn) = false := by cases op <;> first | rfl | exact absurd rfl h2
  cases b <;> simp [behindInMarks, e1, e2]
def tB (t : TE) : TT := fun σ H Q => t σ H fun x H1 => ∃ c, x = .bl c ∧ Q c H1
theorem pt_cmp {op : CmpOp} {t : TE} (h : PC X op a b t) (h1 : behindInMarks op b = false := by first | exact nobehind _ (by decide) (by decide) | rfl) : PT X (.Compare a [op] [b] pos) (tB t) := by
  intro pins s σ H Q I hw
  refine wpAny_isTrue_Compare1 (thn (h pins s σ H _ I hw) fun v s1 h1 => thn h1 fun u s2 h2 => thn h2 fun c s3 ⟨x, H1, I1, r1, q1⟩ => ?_) h1
  obtain ⟨d, rfl, q⟩ := q1
  cases r1
  exact wpAny_truthy_bool ⟨H1, I1, q⟩
theorem pt_val {e : Expr} {t : TE} (h : PE X e t) (he : ∀ whole, isTrue e X.env whole = (do let v ← whole; standAt e.pos; holding [v] (truthy v)) := by intro _; rfl) : PT X e (tB t) := by
  intro pins s σ H Q I hw
  refine isTrue_plain (thn (h pins s σ H _ I hw) fun v s1 ⟨x, H1, I1, r1, q1⟩ => ?_) (he _)
  obtain ⟨d, rfl, q⟩ := q1
  cases r1
  exact wpAny_truthy_bool ⟨H1, I1, q⟩
variable {tA tB' : TT} {rest : List Expr}
def tAnd (t u : TT) : TT := fun σ H Q => t σ H fun c H1 => if c = true then u σ H1 Q else Q false H1
def tOr (t u : TT) : TT := fun σ H Q => t σ H fun c H1 => if c = true then Q true H1 else u σ H1 Q
def tNot (t : TT) : TT := fun σ H Q => t σ H fun c H1 => Q (!c) H1
theorem pw_and1 (ha : PT X a tA) : PW X (.BoolOp .And [a] pos) tA := by
  intro wh pins s σ H Q I h
  refine isTrue_and (thn (ha pins s σ H Q I h) fun c s1 e => ?_)
  cases c with
  | true => exact isTrue_and_nil e
  | false => exact e
theorem pw_or1 (ha : PT X a tA) : PW X (.BoolOp .Or [a] pos) tA := by
  intro wh pins s σ H Q I h
  refine isTrue_or (thn (ha pins s σ H Q I h) fun c s1 e => ?_)
  cases c with
  | false => exact isTrue_or_nil e
  | true => exact e
theorem pw_and (ha : PT X a tA) (hb : PW X (.BoolOp .And (b :: rest) pos) tB') : PW X (.BoolOp .And (a :: b :: rest) pos) (tAnd tA tB') := by
  intro wh pins s σ H Q I h
  refine isTrue_and (thn (ha pins s σ H _ I h) fun c s1 ⟨H1, I1, q1⟩ => ?_)
  cases c with
  | true => exact hb wh pins s1 σ H1 Q I1 q1
  | false => exact ⟨H1, I1, q1⟩
theorem pw_or (ha : PT X a tA) (hb : PW X (.BoolOp .Or (b :: rest) pos) tB') : PW X (.BoolOp .Or (a :: b :: rest) pos) (tOr tA tB') := by
  intro wh pins s σ H Q I h
  refine isTrue_or (thn (ha pins s σ H _ I h) fun c s1 ⟨H1, I1, q1⟩ => ?_)
  cases c with
  | true => exact ⟨H1, I1, q1⟩
  | false => exact hb wh pins s1 σ H1 Q I1 q1
theorem pt_not (ha : PT X a tA) : PT X (.UnaryOp .Not a pos) (tNot tA) := by
  intro pins s σ H Q I h
  exact isTrue_not (ha pins s σ H (fun c H1 => Q (!c) H1) I h)
def tAndV (ta tb : TE) : TE := fun σ H Q => ta σ H fun x H1 => ∃ c, x = .bl c ∧ if c = true then tb σ H1 Q else Q (.bl false) H1
def tOrV (ta tb : TE) : TE := fun σ H Q => ta σ H fun x H1 => ∃ c, x = .bl c ∧ if c = true then Q (.bl true) H1 else tb σ H1 Q
def tNotV (ta : TE) : TE := fun σ H Q => ta σ H fun x H1 => ∃ c, x = .bl c ∧ Q (.bl (!c)) H1
theorem pe_one {op} {t : TE} (h : PE X a t) : PE X (.BoolOp op [a] pos) t := fun pins s σ H Q I hw => BoolOp_one (h pins s σ H Q I hw)
theorem pe_and (ha : PE X a ta) (hb : PE X (.BoolOp .And (b :: rest) pos) tb) : PE X (.BoolOp .And (a :: b :: rest) pos) (tAndV ta tb) := by
  intro pins s σ H Q I h
  refine BoolOp_and (thn (ha pins s σ H _ I h) fun v s1 ⟨x, H1, I1, r1, q1⟩ => ?_)
  obtain ⟨c, rfl, q1⟩ := q1
  cases r1
  refine wpAny_truthy_bool ?_
  cases c with
  | true => exact hb pins s1 σ H1 Q I1 q1
  | false => exact ⟨.bl false, H1, I1, rfl, q1⟩
theorem pe_or (ha : PE X a ta) (hb : PE X (.BoolOp .Or (b :: rest) pos) tb) : PE X (.BoolOp .Or (a :: b :: rest) pos) (tOrV ta tb) := by
  intro pins s σ H Q I h
  refine BoolOp_or (thn (ha pins s σ H _ I h) fun v s1 ⟨x, H1, I1, r1, q1⟩ => ?_)
  obtain ⟨c, rfl, q1⟩ := q1
  cases r1
  refine wpAny_truthy_bool ?_
  cases c with
  | false => exact hb pins s1 σ H1 Q I1 q1
  | true => exact ⟨.bl true, H1, I1, rfl, q1⟩
theorem pe_not (ha : PE X a ta) : PE X (.UnaryOp .Not a pos) (tNotV ta) := by
  intro pins s σ H Q I h
  refine UnaryOp_ (thn (ha pins s σ H _ I h) fun v s1 ⟨x, H1, I1, r1, q1⟩ => ?_)
  obtain ⟨c, rfl, q1⟩ := q1
  cases r1
  exact not_of (wpAny_truthy_bool ⟨.bl (!c), H1, I1, rfl, q1⟩)
def tIf (t : TT) (ta tb : TE) : TE := fun σ H Q => t σ H fun c H1 => if c = true then ta σ H1 Q else tb σ H1 Q
theorem pe_ifExp {c : Expr} (hc : PT X c tA) (ha : PE X a ta) (hb : PE X b tb) : PE X (.IfExp c a b pos) (tIf tA ta tb) := by
  intro pins s σ H Q I h
  refine wpAny_IfExp (thn (hc pins s σ H _ I h) fun d s1 ⟨H1, I1, q1⟩ => ?_)
  cases d with
  | true => exact ha pins s1 σ H1 Q I1 q1
  | false => exact hb pins s1 σ H1 Q I1 q1
end
end L2
namespace L2
open PySem PySem.Spec PyProof.Rows
def SqL (K : PySem.W.Frag) (H : Hp) (a : Addr) (xs : List V) : Prop :=
  Rd H a (.lst xs) ∨
    ∃ (o : Obj) (its : Array Value) (n : Nat), K.lookup a = some o ∧ o.cls = .type "list" ∧ o.dict = none ∧ o.data = .seq its n ∧ its.size ≤ sizeLine ∧ Vals xs its.toList
def SqT (K : PySem.W.Frag) (H : Hp) (a : Addr) (xs : List V) : Prop :=
  Rd H a (.tup xs) ∨
    ∃ (o : Obj) (its : Array Value) (n : Nat), K.lookup a = some o ∧ o.cls = .type "tuple" ∧ o.data = .seq its n ∧ its.size ≤ sizeLine ∧ Vals xs its.toList
def absV : Value → Option V
  | .none => some .non
  | .bool b => some (.bl b)
  | .int i _ => some (.int i)
  | .str x _ => some (.str x)
  | .bytes b _ => some (.byt b)
  | .float b _ => some (.flt b)
  | .ref a => some (.ref a)
  | .type n => some (.ty n)
  | _ => none
theorem RelV.abs {x : V} {u : Value} (r : RelV x u) : absV u = some x := by
  cases x with
  | non => cases r; rfl
  | bl _ => cases r; rfl
  | int _ => obtain ⟨t, rfl⟩ := r; rfl
  | str _ => obtain ⟨t, rfl⟩ := r; rfl
  | byt _ => obtain ⟨t, rfl⟩ := r; rfl
  | flt _ => obtain ⟨t, rfl⟩ := r; rfl
  | ref _ => cases r; rfl
  | ty _ => cases r; rfl
theorem RelV.inj {x y : V} {u : Value} (r : RelV x u) (q : RelV y u) : x = y := Option.some.inj (r.abs.symm.trans q.abs)
theorem Vals.inj : ∀ {xs ys : List V} {us : List Value}, Vals xs us → Vals ys us → xs = ys
  | _, _, _, .nil, .nil => rfl
  | _, _, _, .cons r t, .cons r' t' => by rw [r.inj r', Vals.inj t t']
section
variable {X : Cx} {pins : List (Addr × Obj)} {σ : St} {H : Hp} {s : Shared} {a : Addr} {xs ys : List V}
theorem SqL.of {K : PySem.W.Frag} (h : H a = some (.lst xs)) : SqL K H a xs := .inl (.inl h)
theorem SqT.of {K : PySem.W.Frag} (h : H a = some (.tup xs)) : SqT K H a xs := .inl (.inl h)
theorem Inv.list (I : Inv X pins σ H s) (h : SqL X.K H a xs) : ∃ its : List Value, Vals xs its ∧ PlainL s.heap a its.toArray ∧ xs.length ≤ sizeLine := by
  rcases h with h | ⟨o, its, n, hk, hc, hd, hs, hz, r⟩
  · obtain ⟨z, its, n, r, e⟩ := h.ok I.hok
    exact ⟨its, r, ⟨_, n, e, rfl, rfl, rfl⟩, z⟩
  · refine ⟨its.toList, r, ⟨o, n, I.kIn a o hk, hc, hd, by simpa using hs⟩, ?_⟩
    have e := r.length
    simp only [Array.length_toList] at e
    omega
theorem Inv.tuple (I : Inv X pins σ H s) (h : SqT X.K H a xs) : ∃ its : List Value, Vals xs its ∧ IsTup s.heap a its.toArray ∧ xs.length ≤ sizeLine := by
  rcases h with h | ⟨o, its, n, hk, hc, hs, hz, r⟩
  · obtain ⟨z, its, r, p⟩ := h.ok I.hok
    exact ⟨its, r, p, z⟩
  · refine ⟨its.toList, r, ⟨o, I.kIn a o hk, hc, n, by simpa using hs⟩, ?_⟩
    have e := r.length
    simp only [Array.length_toList] at e
    omega
theorem Inv.list_inj (I : Inv X pins σ H s) (h : SqL X.K H a xs) (h' : SqL X.K H a ys) : xs = ys := by
  obtain ⟨its, r, ⟨o, n, e, _, _, d⟩, _⟩ := I.list h
  obtain ⟨its', r', ⟨o', n', e', _, _, d'⟩, _⟩ := I.list h'
  rw [e] at e'; cases e'
  rw [d] at d'
  injection d' with d1 _
  have : its = its' := by simpa using congrArg Array.toList d1
  subst this
  exact r.inj r'
end
abbrev Cx.wish (X : Cx) (E : Value → Shared → Prop) : Cx := { X with xe := E }
abbrev Cx.nox (X : Cx) : Cx := X.wish fun _ _ => False
theorem Cx.Ok.wish {X : Cx} (ok : X.Ok) (E : Value → Shared → Prop) : (X.wish E).Ok :=
  ⟨ok.mod, ok.kind, ok.glob, ok.blt, ok.above, ok.inj, ok.has, ok.cab, ok.hd, ok.frames, ok.stk, ok.exf, ok.bs, ok.bsz, ok.noex, ok.exfs, ok.funs, ok.frf⟩
theorem Cx.Ok.unwish {X : Cx} {E : Value → Shared → Prop} (ok : (X.wish E).Ok) : X.Ok :=
  ⟨ok.mod, ok.kind, ok.glob, ok.blt, ok.above, ok.inj, ok.has, ok.cab, ok.hd, ok.frames, ok.stk, ok.exf, ok.bs, ok.bsz, ok.noex, ok.exfs, ok.funs, ok.frf⟩
section
variable {X : Cx} {pins : List (Addr × Obj)} {σ : St} {H : Hp} {s : Shared} {E : Value → Shared → Prop}
theorem Inv.wish (I : Inv X pins σ H s) (E : Value → Shared → Prop) : Inv (X.wish E) pins σ H s := ⟨I.ok.wish E, I.os, I.bare, I.base, I.loc, I.cell, I.free, I.freeC, I.pin, I.hok, I.len⟩
theorem Inv.unwish (I : Inv (X.wish E) pins σ H s) : Inv X pins σ H s := ⟨I.ok.unwish, I.os, I.bare, I.base, I.loc, I.cell, I.free, I.freeC, I.pin, I.hok, I.len⟩
theorem SP.unwish {D : Ends} {f : Flow} {s' : Shared} (h : SP (X.wish E) pins D f s') : SP X pins D f s' := by
  cases f with
  | next => obtain ⟨σ', H', I, q⟩ := h; exact ⟨σ', H', I.unwish, q⟩
  | brk => obtain ⟨σ', H', I, q⟩ := h; exact ⟨σ', H', I.unwish, q⟩
  | cont => obtain ⟨σ', H', I, q⟩ := h; exact ⟨σ', H', I.unwish, q⟩
  | ret u => obtain ⟨v, σ', H', I, r, q⟩ := h; exact ⟨v, σ', H', I.unwish, r, q⟩
theorem PSs.nox {st : List Stmt} {t : TS} (h : PSs X.nox st t) : PSs X st t := fun pins s σ H D I hw =>
  wpAny_mono (h pins s σ H D (I.wish _) hw) (fun _ _ q => q.unwish) fun _ _ z => False.elim z
end
section
variable {X : Cx} {st : Stmt} {rest : List Stmt} {t u : TS} {e : Expr} {te : TE} {pos : Pos}
def tNext : TS := fun D σ H => D.nx σ H
def tSeq (t u : TS) : TS := fun D σ H => t { D with nx := u D } σ H
theorem pss_nil : PSs X [] tNext := fun _ _ σ H _ I h => wpAny_execs_nil ⟨σ, H, I, h⟩
theorem pss_cons (h1 : PS X st t) (h2 : PSs X rest u) : PSs X (st :: rest) (tSeq t u) := by
  intro pins s σ H D I h
  refine wpAny_execs_cons (thn (h1 pins s σ H { D with nx := u D } I h) fun f s1 q => ?_)
  cases f with
  | next =>
    obtain ⟨σ', H', I', q⟩ := q
    exact h2 pins s1 σ' H' D I' q
  | ret v => exact q
  | brk => exact q
  | cont => exact q
theorem pss_one (h1 : PS X st t) : PSs X [st] t := by
  intro pins s σ H D I h
  refine wpAny_execs_cons (thn (h1 pins s σ H D I h) fun f s1 q => ?_)
  cases f with
  | next => exact wpAny_execs_nil q
  | ret v => exact q
  | brk => exact q
  | cont => exact q
theorem Inv.quiet {pins : List (Addr × Obj)} {σ : St} {H : Hp} {s : Shared} (I : Inv X pins σ H s) : interactive X.env = false := by simp [interactive, I.ok.kind]
def tDrop (te : TE) : TS := fun D σ H => te σ H fun _ H1 => D.nx σ H1
theorem ps_expr (he : PE X e te) (hs : swapsWith e none pos.line X.env = pure false := by rfl) : PS X (.Expr e pos) (tDrop te) := by
  intro pins s σ H D I h
  exact wpAny_Expr_any (thn (he pins s σ H _ I h) fun v s1 ⟨x, H1, I1, r1, q1⟩ => ⟨σ, H1, I1, q1⟩) I.quiet hs
def tRet (te : TE) : TS := fun D σ H => te σ H D.rt
theorem ps_ret (he : PE X e te) : PS X (.Return (some e) pos) (tRet te) := by
  intro pins s σ H D I h
  exact wpAny_Return_some (thn (he pins s σ H _ I h) fun v s1 ⟨x, H1, I1, r1, q1⟩ => ⟨x, σ, H1, I1, r1, q1⟩)
def tRetN : TS := fun D _ H => D.rt .non H
theorem ps_retN : PS X (.Return none pos) tRetN := fun _ _ σ H _ I h => wpAny_Return_none ⟨.non, σ, H, I, rfl, h⟩
def tIfS (c : TT) (t u : TS) : TS := fun D σ H => c σ H fun b H1 => if b = true then t D σ H1 else u D σ H1
theorem ps_if {c : Expr} {a b : List Stmt} {tc : TT} (hc : PT X c tc) (ha : PSs X a t) (hb : PSs X b u) : PS X (.If c a b pos) (tIfS tc t u) := by
  intro pins s σ H D I h
  refine wpAny_If (thn (hc pins s σ H _ I h) fun d s1 ⟨H1, I1, q1⟩ => ?_)
  cases d with
  | true => exact ha pins s1 σ H1 D I1 q1
  | false => exact hb pins s1 σ H1 D I1 q1
end
abbrev TG := V → St → Hp → (St → Hp → Prop) → Prop
abbrev TGs := List V → St → Hp → (St → Hp → Prop) → Prop
def PG (X : Cx) (target : Expr) (t : TG) : Prop :=
  ∀ (pins : List (Addr × Obj)) (s : Shared) (σ : St) (H : Hp) (v : V) (u : Value) (Q : St → Hp → Prop), Inv X pins σ H s → RelV v u → t v σ H Q →
    wpAny (model X.prog X.w) X.A (assign target X.env u) (fun _ s' => ∃ σ' H', Inv X pins σ' H' s' ∧ Q σ' H') X.xe s
def PGs (X : Cx) (ts : List Expr) (t : TGs) : Prop :=
  ∀ (pins : List (Addr × Obj)) (s : Shared) (σ : St) (H : Hp) (vs : List V) (us : List Value) (Q : St → Hp → Prop), Inv X pins σ H s → Vals vs us → t vs σ H Q →
    wpAny (model X.prog X.w) X.A (assignInOrder ((assignEach ts X.env).map (·.2)) us) (fun _ s' => ∃ σ' H', Inv X pins σ' H' s' ∧ Q σ' H') X.xe s
section
variable {X : Cx} {pos : Pos}
def gName (i : Nat) : TG := fun v σ H Q => Q (σ.set i (some v)) H
theorem pg_name {i : Nat} {x : Str} (hN : X.N.Nodup) (hi : X.N[i]? = some x) (hx : Loc X.env.scope x) (hf : X.fn x = true ∨ X.env.scope.names.lookup x = some .local := by first | exact .inl rfl | exact .inr rfl | assumption) : PG X (.Name x pos) (gName i) := by
  intro pins s σ H v u Q I r h
  exact wpAny_assign_Name (store_ok I hN hi hx r (fun s' I' => ⟨_, H, I', h⟩) hf)
def gNil : TGs := fun vs σ H Q => vs = [] ∧ Q σ H
def gCons (t : TG) (u : TGs) : TGs := fun vs σ H Q => ∃ v r, vs = v :: r ∧ t v σ H fun σ' H' => u r σ' H' Q
theorem pgs_nil : PGs X [] gNil := by
  intro pins s σ H vs us Q I r h
  obtain ⟨e, h⟩ := h
  subst e
  cases r
  exact assignInOrder_nil ⟨σ, H, I, h⟩
theorem pgs_cons {e : Expr} {es : List Expr} {t : TG} {u : TGs} (h1 : PG X e t) (h2 : PGs X es u)
    (hs : (assignEach (e :: es) X.env).map (·.2) = assign e X.env :: (assignEach es X.env).map (·.2) := by rfl) : PGs X (e :: es) (gCons t u) := by
  intro pins s σ H vs us Q I r h
  obtain ⟨v, vr, e1, h⟩ := h
  subst e1
  cases r with
  | cons r rr =>
    rw [hs]
    refine assignInOrder_cons (thn (h1 pins s σ H _ _ _ I r h) fun _ s1 ⟨σ1, H1, I1, q1⟩ => ?_)
    exact h2 pins s1 σ1 H1 _ _ Q I1 rr q1
def gTup (K : PySem.W.Frag) (n : Nat) (t : TGs) : TG := fun v σ H Q => ∃ a xs, v = .ref a ∧ SqT K H a xs ∧ xs.length = n ∧ t xs σ H Q
theorem pg_tup {es : List Expr} {k : Nat} {t : TGs} {n : Nat} (hc : X.calm = true) (h : PGs X es t)
    (hn : (assignEach es X.env).length = n := by rfl) (hst : (assignEach es X.env).findIdx? (·.1) = none := by rfl) : PG X (.Tuple es k pos) (gTup X.K n t) := by
  intro pins s σ H v u Q I r hw
  obtain ⟨a, xs, e1, hq, hl, hw⟩ := hw
  subst e1
  cases r
  obtain ⟨its, rv, ht, hz⟩ := I.tuple hq
  refine assign_Tuple_tuple (I.ok.hd hc) ht (by simp [hn, ← hl, rv.length]) hst fun h' hx => ?_
  have I1 : Inv X pins σ H { s with heap := h' } := I.kept (t' := s.toks) fun b o e => hx b o (Nat.ne_of_lt (Heap.lt_size e)) e
  exact h pins _ σ H xs _ Q I1 (by simpa using rv) hw
def tAsg (te : TE) (g : TG) : TS := fun D σ H => te σ H fun x H1 => g x σ H1 D.nx
theorem ps_set {i : Nat} {x : Str} {e : Expr} {te : TE} {pos' : Pos} (hN : X.N.Nodup) (hi : X.N[i]? = some x) (hx : Loc X.env.scope x) (he : PE X e te) (hs : swapsWith e (some (.Name x pos')) pos.line X.env = pure false := by rfl) (hf : X.fn x = true ∨ X.env.scope.names.lookup x = some .local := by first | exact .inl rfl | exact .inr rfl | assumption) :
    PS X (.Assign [.Name x pos'] e pos) (tAsg te (gName i)) := by
  intro pins s σ H D I h
  refine wpAny_Assign_Name (thn (he pins s σ H _ I h) fun v s1 ⟨y, H1, I1, r1, q1⟩ => ?_) hs
  exact store_ok I1 hN hi hx r1 (fun s2 I2 => ⟨_, H1, I2, q1⟩) hf
end
section
variable {X : Cx} {pos : Pos}
def tWhile (c : TT) (tb : TS) : TS := fun D σ H => ∃ W : Nat → St → Hp → Prop, (∃ m, W m σ H) ∧ ∀ m σ H, W m σ H →
  c σ H fun b H1 => if b = true then ∃ N : St → Hp → Prop, (∀ σ' H', N σ' H' → ∃ m', m' < m ∧ W m' σ' H') ∧ tb { D with nx := N, ct := N, bk := D.nx } σ H1 else D.nx σ H1
theorem ps_while {c : Expr} {body : List Stmt} {tc : TT} {tb : TS} (hp : PassesOwn (model X.prog X.w) X.A X.env X.xe) (hc : PT X c tc) (hb : PSs X body tb) : PS X (.While c body [] pos) (tWhile tc tb) := by
  intro pins s σ H D I h
  obtain ⟨W, ⟨m0, w0⟩, turn⟩ := h
  refine wpAny_While (codeAny_whileLoop (fun n s' => ∃ σ' H', Inv X pins σ' H' s' ∧ W n σ' H') ?_ m0 ⟨σ, H, I, w0⟩)
  rintro n s1 ⟨σ1, H1, I1, w1⟩
  refine wpAny_passesOwn hp (thn (hc pins s1 σ1 H1 _ I1 (turn n σ1 H1 w1)) fun b s2 ⟨H2, I2, q2⟩ => ?_)
  cases b with
  | true =>
    obtain ⟨N, hN, q2⟩ := q2
    rw [if_pos rfl]
    refine wpAny_passesOwn hp (thn (hb pins s2 σ1 H2 _ I2 q2) fun f s3 q3 => ?_)
    cases f with
    | next =>
      obtain ⟨σ3, H3, I3, n3⟩ := q3
      obtain ⟨m', hm, w3⟩ := hN σ3 H3 n3
      exact ⟨m', hm, σ3, H3, I3, w3⟩
    | cont =>
      obtain ⟨σ3, H3, I3, n3⟩ := q3
      obtain ⟨m', hm, w3⟩ := hN σ3 H3 n3
      exact ⟨m', hm, σ3, H3, I3, w3⟩
    | brk => exact q3
    | ret v => exact q3
  | false =>
    rw [if_neg Bool.false_ne_true]
    exact wpAny_execs_nil ⟨σ1, H2, I2, q2⟩
end
structure It where
  go : Nat → Hp → Prop
  yld : Nat → Hp → V → Hp → Prop
  stop : Nat → Hp → Prop
def FpOk (X : Cx) (pins : List (Addr × Obj)) (H : Hp) (b : Addr) : Prop :=
  H b = none ∧ b ≠ X.env.locals ∧ b ∉ X.fs ∧ (b ∈ X.ex ∨ X.s_0.heap.objs.size ≤ b) ∧ (∀ x c, X.env.cells.lookup x = some c → c ≠ b) ∧ ∀ p ∈ X.pn ++ pins, p.1 ≠ b
theorem Inv.fpOk {X : Cx} {pins : List (Addr × Obj)} {σ : St} {H H' : Hp} {s : Shared} {b : Addr} (I : Inv X pins σ H s) (hb : s.heap.objs.size ≤ b) (hn : H' b = none) : FpOk X pins H' b := by
  refine ⟨hn, Nat.ne_of_gt (Nat.lt_of_lt_of_le I.lt hb), I.nofs hb, .inr (Nat.le_trans I.sz hb), fun x c e z => ?_, fun p hp z => ?_⟩
  · obtain ⟨v, q⟩ := I.cell x c e
    exact absurd (Nat.lt_of_lt_of_le q.lt (by rw [z]; exact hb)) (Nat.lt_irrefl _)
  · exact absurd (Nat.lt_of_lt_of_le (Heap.lt_size (I.pin p hp).1) (by rw [z]; exact hb)) (Nat.lt_irrefl _)
structure Turn (P : Program) (w : World) (K : PySem.W.Frag) (tg : Expr) (J : It) (fp : List Addr) (it : Addr) (tn : Nat → Heap → Prop) : Prop where
  mem : it ∈ fp
  obj : ∀ i h, tn i h → ∀ b ∈ fp, ∃ o, h.get? b = some o ∧ ∀ v, o.data ≠ .cell v
  keep : ∀ i h h', tn i h → (∀ b ∈ fp, ∀ o, h.get? b = some o → h'.get? b = some o) → tn i h'
  item : ∀ (X : Cx), X.prog = P → X.w = w → X.K = K → X.calm = true → ∀ (i : Nat) (pins : List (Addr × Obj)) (s : Shared) (σ : St) (H : Hp) (E : Value → Shared → Prop), Inv X pins σ H s → (∀ b ∈ fp, FpOk X pins H b) → tn i s.heap → J.go i H →
    wpAny (model P w) X.A (pyNext (.ref it)) (fun r s1 => ∃ u, r = some u ∧
      wpAny (model P w) X.A (letOwnedTupleGo tg (.ref it) u) (fun _ s2 => ∃ x H', Inv X pins σ H' s2 ∧ RelV x u ∧ J.yld i H x H' ∧ tn (i + 1) s2.heap ∧ ∀ b ∈ fp, H' b = none) E s1) E s
  done : ∀ (X : Cx), X.prog = P → X.w = w → X.K = K → X.calm = true → ∀ (i : Nat) (pins : List (Addr × Obj)) (s : Shared) (σ : St) (H : Hp) (E : Value → Shared → Prop), Inv X pins σ H s → (∀ b ∈ fp, FpOk X pins H b) → tn i s.heap → J.stop i H →
    wpAny (model P w) X.A (pyNext (.ref it)) (fun r s1 => r = none ∧ Inv X pins σ H s1) E s
  self : ∀ (A : Around) (i : Nat) (s : Shared) (Q : Value → Shared → Prop) (E : Value → Shared → Prop), tn i s.heap → Q (.ref it) s → wpAny (model P w) A (pyIter (.ref it)) Q E s
abbrev TI := St → Hp → (It → Hp → Prop) → Prop
def PIE (X : Cx) (pins : List (Addr × Obj)) (σ : St) (tg : Expr) (R : It → Hp → Prop) (itv : Value) (s2 : Shared) : Prop :=
  ∃ (it : Addr) (fp : List Addr) (tn : Nat → Heap → Prop) (J : It) (H' : Hp), itv = .ref it ∧ Inv X pins σ H' s2 ∧ Turn X.prog X.w X.K tg J fp it tn ∧ tn 0 s2.heap ∧ (∀ b ∈ fp, FpOk X pins H' b) ∧ R J H'
def PI (X : Cx) (tg iter : Expr) (wi : TI) : Prop :=
  ∀ (pins : List (Addr × Obj)) (s : Shared) (σ : St) (H : Hp) (R : It → Hp → Prop), Inv X pins σ H s → wi σ H R →
    wpAny (model X.prog X.w) X.A (eval iter X.env) (fun v s1 => wpAny (model X.prog X.w) X.A (pyIter v) (PIE X pins σ tg R) X.xe s1) X.xe s
theorem go_of {M : Model} {A : Around} {E : Value → Shared → Prop} {s : Shared} {tg : Expr} {it : Addr} {u : Value} {o : Obj} {n : String} {vs : Array Value} {Q : Unit → Shared → Prop} (ho : s.heap.get? it = some o) (hc : o.cls = .type n) (hd : o.data = .fields vs)
    (hn : ["enumerate", "zip", "dict_itemiterator", "dict_reverseitemiterator", "odict_iterator", "itertools.zip_longest", "itertools.pairwise"].contains n = false) (hQ : Q () s) : wpAny M A (letOwnedTupleGo tg (.ref it) u) Q E s := by
  unfold letOwnedTupleGo
  cases tg <;> first
    | exact wpAny_pure hQ
    | (cases u <;> first
        | exact wpAny_pure hQ
        | (refine wpAny_bind (wpAny_load ho ?_)
           rw [hc, hd]
           show wpAny M A (if (["enumerate", "zip", "dict_itemiterator", "dict_reverseitemiterator", "odict_iterator", "itertools.zip_longest", "itertools.pairwise"].contains n && vs[0]? == some (rawInt _)) = true then _ else _) Q E s
           rw [if_neg (by intro h; rw [hn, Bool.false_and] at h; cases h)]
           exact wpAny_pure hQ))
def Itl (K : PySem.W.Frag) (a : Addr) : It :=
  ⟨fun i H => ∃ xs x, SqL K H a xs ∧ xs[i]? = some x, fun i H x H' => H' = H ∧ ∀ xs, SqL K H a xs → xs[i]? = some x, fun i H => ∃ xs, SqL K H a xs ∧ xs.length ≤ i⟩
def Itr (lo : Int) (n : Nat) : It := ⟨fun i _ => i < n, fun i H x H' => H' = H ∧ x = .int (lo + i), fun i _ => n ≤ i⟩
theorem turn_list {P : Program} {w : World} {K : PySem.W.Frag} {tg : Expr} (a it : Addr) : Turn P w K tg (Itl K a) [it] it (fun i h => h.IsListIter it a i) where
  mem := by simp
  obj := fun i h st b hb => by
    have e : b = it := by simpa using hb
    subst e
    obtain ⟨o, e, c, d⟩ := st
    exact ⟨o, e, fun v z => by rw [d] at z; cases z⟩
  keep := fun i h h' st k => st.at fun o e => k it (by simp) o e
  item := by
    intro X hP hw hK hc i pins s σ H E I hf st hg
    subst hP hw hK
    obtain ⟨xs, x, hq, hx⟩ := hg
    obtain ⟨its, rv, p, hz⟩ := I.list hq
    obtain ⟨u, hu, ru⟩ := rv.get hx
    obtain ⟨f0, f1, f2, f3, f4, f5⟩ := hf it (by simp)
    refine wpAny_pyNext_list_item st p.isList (x := u) (by simpa using hu) fun h' st' sb => ?_
    have I1 : Inv X pins σ H { s with heap := h' } := I.turned (t' := s.toks) (fun b o hb e => (sb.2 b hb).trans e) f0 f1 f3 f4 f5
    obtain ⟨o, e, c, d⟩ := id st'
    exact ⟨u, rfl, go_of (s := { s with heap := h' }) e c d (by decide) ⟨x, H, I1, ru, ⟨rfl, fun ys hy => by rw [I.list_inj hy hq]; exact hx⟩, st', fun b hb => (hf b hb).1⟩⟩
  done := by
    intro X hP hw hK hc i pins s σ H E I hf st hg
    subst hP hw hK
    obtain ⟨xs, hq, hx⟩ := hg
    obtain ⟨its, rv, p, hz⟩ := I.list hq
    obtain ⟨f0, f1, f2, f3, f4, f5⟩ := hf it (by simp)
    have hl := rv.length
    exact wpAny_pyNext_list_end (I.ok.hd hc) st p.isList (by simp; omega) fun h' eb => ⟨rfl, I.turned (t' := s.toks) (fun b o hb e => eb b o hb e) f0 f1 f3 f4 f5⟩
  self := fun _ _ _ _ _ st h => wpAny_pyIter_listiter st h
theorem turn_range {P : Program} {w : World} {K : PySem.W.Frag} {tg : Expr} (it : Addr) (lo : Int) (n : Nat) : Turn P w K tg (Itr lo n) [it] it (fun i h => IsRangeIter h it (lo + (i : Nat) * 1) ((n : Int) - (i : Nat)) 1) where
  mem := by simp
  obj := fun i h st b hb => by
    have e : b = it := by simpa using hb
    subst e
    exact ⟨_, st, fun v z => by
      have z' : Data.fields _ = Data.cell v := z
      cases z'⟩
  keep := fun i h h' st k => k it (by simp) _ st
  item := by
    intro X hP hw hK hc i pins s σ H E I hf st hg
    subst hP hw hK
    obtain ⟨f0, f1, f2, f3, f4, f5⟩ := hf it (by simp)
    have W := Walks.range (prog := X.prog) (w := X.w) (I.ok.hd hc) it lo 1 n
    refine W.item i s _ _ hg st fun v h' tk hv st' kk => ?_
    obtain ⟨t, rfl⟩ := hv
    have I1 : Inv X pins σ H { s with heap := h', toks := tk } := I.turned (fun b o hb e => kk b o (by simpa using hb) e) f0 f1 f3 f4 f5
    refine ⟨_, rfl, go_of (s := { s with heap := h', toks := tk }) (n := "range_iterator") st' rfl rfl (by decide) ⟨.int (lo + i), H, I1, ⟨t, ?_⟩, ⟨rfl, rfl⟩, st', fun b hb => (hf b hb).1⟩⟩
    rw [Int.mul_one]
  done := by
    intro X hP hw hK hc i pins s σ H E I hf st hg
    subst hP hw hK
    obtain ⟨f0, f1, f2, f3, f4, f5⟩ := hf it (by simp)
    exact wpAny_pyNext_range_end (I.ok.hd hc) st (by have : n ≤ i := hg; omega) fun h' eb => ⟨rfl, I.turned (t' := s.toks) (fun b o hb e => eb b o hb e) f0 f1 f3 f4 f5⟩
  self := fun _ _ _ _ _ st h => wpAny_pyIter_rangeiter st h
end L2
namespace L2
open PySem PySem.Spec PyProof.Rows
section
variable {X : Cx} {tg : Expr}
def iList (K : PySem.W.Frag) (tl : TE) : TI := fun σ H R => tl σ H fun x H1 => ∃ a, x = .ref a ∧ (∃ xs, SqL K H1 a xs) ∧ R (Itl K a) H1
theorem pi_list {l : Expr} {tl : TE} (hl : PE X l tl) : PI X tg l (iList X.K tl) := by
  intro pins s σ H R I h
  refine thn (hl pins s σ H _ I h) fun v s1 ⟨x, H1, I1, r1, q1⟩ => ?_
  obtain ⟨a, e, ⟨xs, hq⟩, q⟩ := q1
  subst e
  cases r1
  obtain ⟨its, rv, p, hz⟩ := I1.list hq
  refine wpAny_pyIter_list p.isList ?_
  refine ⟨s1.heap.objs.size, [s1.heap.objs.size], _, _, H1, rfl, I1.kept (t' := s1.toks) fun b o e => Heap.get?_push_of_some _ e, turn_list a _, ⟨_, Heap.get?_push_size _ rfl, rfl, rfl⟩, fun b hb => ?_, q⟩
  have e : b = s1.heap.objs.size := by simpa using hb
  subst e
  exact I1.fpOk (Nat.le_refl _) (I1.hok.fresh (Nat.le_refl _))
theorem range_it {pins : List (Addr × Obj)} {σ : St} {H : Hp} {s : Shared} {R : It → Hp → Prop} {E : Value → Shared → Prop} {lo hi : Int} {t u v : Tok} {tk : Nat} (I : Inv X pins σ H s) (h1 : -(2 ^ 62) ≤ lo) (h2 : lo < 2 ^ 62) (h3 : -(2 ^ 62) ≤ hi) (h4 : hi < 2 ^ 62)
    (q : R (Itr lo (hi - lo).toNat) H) : wpAny (model X.prog X.w) X.A (pyIter (.ref s.heap.objs.size)) (PIE X pins σ tg R) E { s with heap := s.heap.push { cls := .type "range", data := .fields #[.int lo t, .int hi u, .int 1 v] }, toks := tk } := by
  refine wpAny_pyIter_range (IsRange.new ..) (small_one h1 h2 h3 h4) ?_
  have I1 : Inv X pins σ H { s with heap := s.heap.push { cls := .type "range", data := .fields #[.int lo t, .int hi u, .int 1 v] }, toks := tk } := I.kept fun b o e => Heap.get?_push_of_some _ e
  refine ⟨(s.heap.push { cls := .type "range", data := .fields #[.int lo t, .int hi u, .int 1 v] }).objs.size, [(s.heap.push { cls := .type "range", data := .fields #[.int lo t, .int hi u, .int 1 v] }).objs.size], _, _, H, rfl,
    I1.kept (t' := tk) fun b o e => Heap.get?_push_of_some _ e, turn_range _ lo (hi - lo).toNat, ?_, fun b hb => ?_, q⟩
  · have e1 : lo + ((0 : Nat) : Int) * 1 = lo := by simp
    have e2 : (((hi - lo).toNat : Nat) : Int) - ((0 : Nat) : Int) = Builtin.Range.rangeSize lo hi 1 := by rw [rangeSize_one]; split <;> omega
    show IsRangeIter _ _ (lo + ((0 : Nat) : Int) * 1) ((((hi - lo).toNat : Nat) : Int) - ((0 : Nat) : Int)) 1
    rw [e1, e2]
    exact Heap.get?_push_size _ rfl
  · have e : b = (s.heap.push { cls := .type "range", data := .fields #[.int lo t, .int hi u, .int 1 v] }).objs.size := by simpa using hb
    subst e
    exact I1.fpOk (Nat.le_refl _) (I1.hok.fresh (Nat.le_refl _))
def iRng2 (ta : TA) : TI := fun σ H R => ta σ H fun vs H1 => ∃ i j : Int, vs = [.int i, .int j] ∧ (-(2 ^ 62) ≤ i ∧ i < 2 ^ 62 ∧ -(2 ^ 62) ≤ j ∧ j < 2 ^ 62) ∧ R (Itr i (j - i).toNat) H1
theorem pi_range2 {a b : Expr} {ta : TA} {p pos : Pos} (hg : Gl X "range") (hm : X.mg "range" = none) (ha : PA X [a, b] ta) (hs : starEach [a, b] X.env = [(false, eval a X.env), (false, eval b X.env)] := by rfl) (hs2 : starEach [b] X.env = [(false, eval b X.env)] := by rfl) :
    PI X tg (.Call (.Name "range" p) [a, b] [] pos) (iRng2 ta) := by
  intro pins s σ H R I h
  refine Call_ (ld_blt I hg hm boot_range (PyProof.Rows.callWith_type1 (thn (ha pos pins s σ H _ I h) fun us s1 ⟨vs, H1, I1, r1, q1⟩ => ?_) (by rw [hs, hs2]) (by rw [hs2]; rfl)))
  obtain ⟨i, j, e, ⟨q1, q2, q3, q4⟩, q⟩ := q1
  subst e
  cases r1 with
  | cons r rr =>
    cases rr with
    | cons r' rr =>
      cases rr
      obtain ⟨t, rfl⟩ := r
      obtain ⟨t', rfl⟩ := r'
      exact call_range_2 (range_it I1 q1 q2 q3 q4 q)
def tFor (wi : TI) (g : TG) (tb : TS) : TS := fun D σ H => wi σ H fun J H1 => ∃ W : Nat → Nat → St → Hp → Prop, (∃ m, W 0 m σ H1) ∧ ∀ i m σ H, W i m σ H →
  (J.stop i H ∧ D.nx σ H) ∨ (J.go i H ∧ ∃ N : St → Hp → Prop, (∀ σ' H', N σ' H' → ∃ m', m' < m ∧ W (i + 1) m' σ' H') ∧ ∀ x H', J.yld i H x H' → g x σ H' fun σ2 H2 => tb { D with nx := N, ct := N, bk := D.nx } σ2 H2)
def pinsAt (fp : List Addr) (h : Heap) : List (Addr × Obj) := fp.filterMap fun b => (h.get? b).map fun o => (b, o)
theorem mem_pinsAt {fp : List Addr} {h : Heap} {b : Addr} {o : Obj} (hb : b ∈ fp) (e : h.get? b = some o) : (b, o) ∈ pinsAt fp h := List.mem_filterMap.mpr ⟨b, hb, by rw [e]; rfl⟩
theorem of_pinsAt {fp : List Addr} {h : Heap} {p : Addr × Obj} (hp : p ∈ pinsAt fp h) : p.1 ∈ fp ∧ h.get? p.1 = some p.2 := by
  obtain ⟨b, hb, e⟩ := List.mem_filterMap.mp hp
  cases q : h.get? b with
  | none => rw [q] at e; cases e
  | some o =>
    rw [q] at e
    have e' : (b, o) = p := Option.some.inj e
    subst e'
    exact ⟨hb, q⟩
theorem Inv.pinned {pins : List (Addr × Obj)} {σ : St} {H : Hp} {s : Shared} {fp : List Addr} (I : Inv X pins σ H s) (hf : ∀ b ∈ fp, FpOk X pins H b) (ho : ∀ b ∈ fp, ∃ o, s.heap.get? b = some o ∧ ∀ v, o.data ≠ .cell v) : Inv X (pins ++ pinsAt fp s.heap) σ H s :=
  I.pins_of fun p hp => (List.mem_append.mp hp).elim (fun z => I.pin p (List.mem_append_right _ z)) fun z => by
    obtain ⟨hb, e⟩ := of_pinsAt z
    obtain ⟨f0, f1, f2, _⟩ := hf p.1 hb
    obtain ⟨o, e', d⟩ := ho p.1 hb
    rw [e] at e'; cases e'
    exact ⟨e, f0, f1, f2, d⟩
theorem Inv.unpinned {pins pl : List (Addr × Obj)} {σ : St} {H : Hp} {s : Shared} (I : Inv X (pins ++ pl) σ H s) : Inv X pins σ H s := I.pins_of fun p hp => I.pin p (List.mem_append_right _ (List.mem_append_left _ hp))
theorem ps_for {iter : Expr} {body : List Stmt} {wi : TI} {g : TG} {tb : TS} {pos : Pos} (hp : PassesOwn (model X.prog X.w) X.A X.env X.xe) (hc : X.calm = true) (hi : PI X tg iter wi) (hg : PG X tg g) (hb : PSs X body tb)
    (hs : ∀ x, foldedSetIterable iter X.env x = pure x := by intro _; rfl) : PS X (.For tg iter body [] pos) (tFor wi g tb) := by
  intro pins s σ H D I h
  refine wpAny_For (thn (hi pins s σ H _ I h) fun v s1 h1 => thn h1 fun itv s2 h2 => ?_) hs
  obtain ⟨it, fp, tn, J, H2, e, I2, T, st2, f2, W, ⟨m0, w0⟩, turn⟩ := h2
  subst e
  have stat : ∀ {H' : Hp}, (∀ b ∈ fp, H' b = none) → ∀ b ∈ fp, FpOk X pins H' b := fun hn b hb => ⟨hn b hb, (f2 b hb).2⟩
  refine codeAny_forLoop_any (fun n s' => ∃ i σ' H', Inv X pins σ' H' s' ∧ tn i s'.heap ∧ (∀ b ∈ fp, H' b = none) ∧ W i n σ' H') ?_ m0 ⟨0, σ, H2, I2, st2, fun b hb => (f2 b hb).1, w0⟩
  rintro n s3 ⟨i, σ3, H3, I3, st3, fr3, w3⟩
  rcases turn i n σ3 H3 w3 with ⟨stop, qn⟩ | ⟨go, N, hN, step⟩
  · refine wpAny_passesOwn hp (thn (T.done X rfl rfl rfl hc i pins s3 σ3 H3 X.xe I3 (stat fr3) st3 stop) fun r s4 ⟨hr, I4⟩ => ?_)
    subst hr
    exact wpAny_execs_nil ⟨σ3, H3, I4, qn⟩
  · refine wpAny_passesOwn hp (thn (T.item X rfl rfl rfl hc i pins s3 σ3 H3 X.xe I3 (stat fr3) st3 go) fun r s4 ⟨u, hr, h4⟩ => ?_)
    subst hr
    refine wpAny_passesOwn hp (thn h4 fun _ s5 ⟨x, H5, I5, r5, y5, st5, fr5⟩ => ?_)
    have I5' := I5.pinned (stat fr5) (T.obj _ _ st5)
    refine wpAny_passesOwn hp (thn (hg _ s5 σ3 H5 x u _ I5' r5 (step x H5 y5)) fun _ s6 ⟨σ6, H6, I6, q6⟩ => ?_)
    refine wpAny_passesOwn hp (thn (hb _ s6 σ6 H6 _ I6 q6) fun f s7 q7 => ?_)
    have again : ∀ {σ7 : St} {H7 : Hp}, Inv X (pins ++ pinsAt fp s5.heap) σ7 H7 s7 → N σ7 H7 → ∃ m, m < n ∧ ∃ i σ' H', Inv X pins σ' H' s7 ∧ tn i s7.heap ∧ (∀ b ∈ fp, H' b = none) ∧ W i m σ' H' := fun {σ7 H7} I7 n7 => by
      obtain ⟨m', hm, w7⟩ := hN σ7 H7 n7
      refine ⟨m', hm, i + 1, σ7, H7, I7.unpinned, T.keep _ _ _ st5 fun b hb o e => (I7.pin (b, o) (List.mem_append_right _ (List.mem_append_right _ (mem_pinsAt hb e)))).1, fun b hb => ?_, w7⟩
      obtain ⟨o, e, d⟩ := T.obj _ _ st5 b hb
      exact (I7.pin (b, o) (List.mem_append_right _ (List.mem_append_right _ (mem_pinsAt hb e)))).2.1
    cases f with
    | next => obtain ⟨σ7, H7, I7, n7⟩ := q7; exact again I7 n7
    | cont => obtain ⟨σ7, H7, I7, n7⟩ := q7; exact again I7 n7
    | brk => obtain ⟨σ7, H7, I7, q7⟩ := q7; exact ⟨σ7, H7, I7.unpinned, q7⟩
    | ret v => obtain ⟨x7, σ7, H7, I7, r7, q7⟩ := q7; exact ⟨x7, σ7, H7, I7.unpinned, r7, q7⟩
end
theorem for_list {K : PySem.W.Frag} {a : Addr} {xs : List V} {g : TG} {tb : TS} {D : Ends} {σ : St} {H : Hp} (Pv : Nat → St → Hp → Prop) (h0 : Pv 0 σ H) (hl : ∀ i σ H, i ≤ xs.length → Pv i σ H → SqL K H a xs)
    (hs : ∀ i x σ H, xs[i]? = some x → Pv i σ H → g x σ H fun σ2 H2 => tb { D with nx := Pv (i + 1), ct := Pv (i + 1), bk := D.nx } σ2 H2) (hd : ∀ σ H, Pv xs.length σ H → D.nx σ H) :
    ∃ W : Nat → Nat → St → Hp → Prop, (∃ m, W 0 m σ H) ∧ ∀ i m σ H, W i m σ H →
      ((Itl K a).stop i H ∧ D.nx σ H) ∨ ((Itl K a).go i H ∧ ∃ N : St → Hp → Prop, (∀ σ' H', N σ' H' → ∃ m', m' < m ∧ W (i + 1) m' σ' H') ∧ ∀ x H', (Itl K a).yld i H x H' → g x σ H' fun σ2 H2 => tb { D with nx := N, ct := N, bk := D.nx } σ2 H2) := by
  refine ⟨fun i m σ H => m = xs.length - i ∧ i ≤ xs.length ∧ Pv i σ H, ⟨xs.length, by simp, Nat.zero_le _, h0⟩, ?_⟩
  rintro i m σ H ⟨rfl, hi, p⟩
  have q := hl i σ H hi p
  by_cases hlt : i < xs.length
  · refine .inr ⟨⟨xs, xs[i], q, by simp [hlt]⟩, Pv (i + 1), fun σ' H' p' => ⟨xs.length - (i + 1), by omega, rfl, hlt, p'⟩, fun x H' y => ?_⟩
    obtain ⟨e, y⟩ := y
    subst e
    exact hs i x σ _ (y xs q) p
  · have e : i = xs.length := by omega
    subst e
    exact .inl ⟨⟨xs, q, Nat.le_refl _⟩, hd σ H p⟩
theorem for_range {lo : Int} {n : Nat} {g : TG} {tb : TS} {D : Ends} {σ : St} {H : Hp} (Pv : Nat → St → Hp → Prop) (h0 : Pv 0 σ H)
    (hs : ∀ i σ H, i < n → Pv i σ H → g (.int (lo + i)) σ H fun σ2 H2 => tb { D with nx := Pv (i + 1), ct := Pv (i + 1), bk := D.nx } σ2 H2) (hd : ∀ σ H, Pv n σ H → D.nx σ H) :
    ∃ W : Nat → Nat → St → Hp → Prop, (∃ m, W 0 m σ H) ∧ ∀ i m σ H, W i m σ H →
      ((Itr lo n).stop i H ∧ D.nx σ H) ∨ ((Itr lo n).go i H ∧ ∃ N : St → Hp → Prop, (∀ σ' H', N σ' H' → ∃ m', m' < m ∧ W (i + 1) m' σ' H') ∧ ∀ x H', (Itr lo n).yld i H x H' → g x σ H' fun σ2 H2 => tb { D with nx := N, ct := N, bk := D.nx } σ2 H2) := by
  refine ⟨fun i m σ H => m = n - i ∧ i ≤ n ∧ Pv i σ H, ⟨n, by simp, Nat.zero_le _, h0⟩, ?_⟩
  rintro i m σ H ⟨rfl, hi, p⟩
  by_cases hlt : i < n
  · refine .inr ⟨hlt, Pv (i + 1), fun σ' H' p' => ⟨n - (i + 1), by omega, rfl, hlt, p'⟩, fun x H' y => ?_⟩
    obtain ⟨e, y⟩ := y
    subst e y
    exact hs i σ _ hlt p
  · have e : i = n := by omega
    subst e
    exact .inl ⟨Nat.le_refl _, hd σ H p⟩
end L2
namespace L2
open PySem PySem.Spec PyProof.Rows
abbrev R2 := V → V → Hp → VK → Prop
def OpR (X : Cx) (f : Value → Value → Sem Value) (r : R2) : Prop :=
  ∀ (pins : List (Addr × Obj)) (s : Shared) (σ : St) (H : Hp) (x y : V) (v u : Value) (Q : VK), Inv X pins σ H s → RelV x v → RelV y u → r x y H Q →
    wpAny (model X.prog X.w) X.A (f v u) (EP X pins σ Q) X.xe s
def UnR (X : Cx) (f : Value → Sem Value) (r : V → Hp → VK → Prop) : Prop :=
  ∀ (pins : List (Addr × Obj)) (s : Shared) (σ : St) (H : Hp) (x : V) (v : Value) (Q : VK), Inv X pins σ H s → RelV x v → r x H Q →
    wpAny (model X.prog X.w) X.A (f v) (EP X pins σ Q) X.xe s
def CallR (X : Cx) (f : Value) (r : List V → Hp → VK → Prop) : Prop :=
  ∀ (pins : List (Addr × Obj)) (s : Shared) (σ : St) (H : Hp) (xs : List V) (us : List Value) (Q : VK), Inv X pins σ H s → Vals xs us → r xs H Q →
    wpAny (model X.prog X.w) X.A (call f us) (EP X pins σ Q) X.xe s
def tOp (r : R2) (ta tb : TE) : TE := fun σ H Q => ta σ H fun x H1 => tb σ H1 fun y H2 => r x y H2 Q
def tUn (r : V → Hp → VK → Prop) (ta : TE) : TE := fun σ H Q => ta σ H fun x H1 => r x H1 Q
def rI (C : Int → Int → Prop) (g : Int → Int → V) : R2 := fun x y H Q => ∃ i j, x = .int i ∧ y = .int j ∧ C i j ∧ Q (g i j) H
def rI0 (g : Int → Int → V) : R2 := fun x y H Q => ∃ i j, x = .int i ∧ y = .int j ∧ Q (g i j) H
def rU (g : Int → V) : V → Hp → VK → Prop := fun x H Q => ∃ i, x = .int i ∧ Q (g i) H
section
variable {X : Cx} {a b c : Expr} {ta tb tc : TE} {pos : Pos}
theorem binT (ha : PE X a ta) (hb : PE X b tb) {pins : List (Addr × Obj)} {s : Shared} {σ : St} {H : Hp} {R : V → V → Hp → Prop} (I : Inv X pins σ H s)
    (h : ta σ H fun x H1 => tb σ H1 fun y H2 => R x y H2) {Q : Value → Shared → Prop} {f : Value → Value → Sem Value}
    (hf : ∀ v u s2 x y H2, Inv X pins σ H2 s2 → RelV x v → RelV y u → R x y H2 → wpAny (model X.prog X.w) X.A (f v u) Q X.xe s2) :
    wpAny (model X.prog X.w) X.A (eval a X.env) (fun v s₁ => wpAny (model X.prog X.w) X.A (eval b X.env) (fun u s₂ => wpAny (model X.prog X.w) X.A (f v u) Q X.xe s₂) X.xe s₁) X.xe s := by
  refine thn (ha pins s σ H _ I h) fun v s1 ⟨x, H1, I1, r1, q1⟩ => ?_
  refine thn (hb pins s1 σ H1 _ I1 q1) fun u s2 ⟨y, H2, I2, r2, q2⟩ => ?_
  exact hf v u s2 x y H2 I2 r1 r2 q2
theorem pe_op {op : Operator} {r : R2} (ho : OpR X (binaryOp op) r) (ha : PE X a ta) (hb : PE X b tb) : PE X (.BinOp a op b pos) (tOp r ta tb) := by
  intro pins s σ H Q I h
  exact wpAny_BinOp (binT ha hb I h fun v u s2 x y H2 I2 rx ry q => ho pins s2 σ H2 x y v u Q I2 rx ry q)
theorem pe_un {op : UnaryOp} {r : V → Hp → VK → Prop} (ho : UnR X (unaryOp op) r) (ha : PE X a ta) : PE X (.UnaryOp op a pos) (tUn r ta) := by
  intro pins s σ H Q I h
  exact UnaryOp_ (thn (ha pins s σ H _ I h) fun v s1 ⟨x, H1, I1, r1, q1⟩ => ho pins s1 σ H1 x v Q I1 r1 q1)
theorem opI {f : Value → Value → Sem Value} {C : Int → Int → Prop} {g : Int → Int → Int}
    (rule : ∀ (i j : Int) (t u : Tok) (s : Shared) (Q : Value → Shared → Prop) (E : Value → Shared → Prop), C i j → Q (.int (g i j) s.toks) { s with toks := s.toks + 1 } → wpAny (model X.prog X.w) X.A (f (.int i t) (.int j u)) Q E s) :
    OpR X f (rI C fun i j => .int (g i j)) := by
  intro pins s σ H x y v u Q I rx ry h
  obtain ⟨i, j, rfl, rfl, hc, q⟩ := h
  obtain ⟨t, rfl⟩ := rx
  obtain ⟨t', rfl⟩ := ry
  exact rule i j t t' s _ _ hc ⟨.int (g i j), H, I.tok _, ⟨_, rfl⟩, q⟩
theorem opI0 {f : Value → Value → Sem Value} {g : Int → Int → Int}
    (rule : ∀ (i j : Int) (t u : Tok) (s : Shared) (Q : Value → Shared → Prop) (E : Value → Shared → Prop), Q (.int (g i j) s.toks) { s with toks := s.toks + 1 } → wpAny (model X.prog X.w) X.A (f (.int i t) (.int j u)) Q E s) :
    OpR X f (rI0 fun i j => .int (g i j)) := by
  intro pins s σ H x y v u Q I rx ry h
  obtain ⟨i, j, rfl, rfl, q⟩ := h
  obtain ⟨t, rfl⟩ := rx
  obtain ⟨t', rfl⟩ := ry
  exact rule i j t t' s _ _ ⟨.int (g i j), H, I.tok _, ⟨_, rfl⟩, q⟩
theorem opB0 {f : Value → Value → Sem Value} {g : Int → Int → Bool}
    (rule : ∀ (i j : Int) (t u : Tok) (s : Shared) (Q : Value → Shared → Prop) (E : Value → Shared → Prop), Q (.bool (g i j)) s → wpAny (model X.prog X.w) X.A (f (.int i t) (.int j u)) Q E s) :
    OpR X f (rI0 fun i j => .bl (g i j)) := by
  intro pins s σ H x y v u Q I rx ry h
  obtain ⟨i, j, rfl, rfl, q⟩ := h
  obtain ⟨t, rfl⟩ := rx
  obtain ⟨t', rfl⟩ := ry
  exact rule i j t t' s _ _ ⟨.bl (g i j), H, I, rfl, q⟩
def CDiv (i j : Int) : Prop := 0 < j ∧ j < 1073741824
def CMul (i j : Int) : Prop := (-(2 ^ 64) < i ∧ i < 2 ^ 64) ∨ (-(2 ^ 64) < j ∧ j < 2 ^ 64)
theorem CMul.ok {i j : Int} (h : CMul i j) : IntMulOk i j := by
  rcases h with ⟨h1, h2⟩ | ⟨h1, h2⟩
  · exact .of_left (intBits_le_64 h1 h2)
  · exact .of_right (intBits_le_64 h1 h2)
theorem two_pow_nn (k : Nat) : (0 : Int) ≤ 2 ^ k := by
  rw [two_pow_cast]
  exact Int.natCast_nonneg _
theorem op_add : OpR X (binaryOp .Add) (rI0 fun i j => .int (i + j)) := opI0 fun _ _ _ _ _ _ _ q => add_int q
theorem op_sub : OpR X (binaryOp .Sub) (rI0 fun i j => .int (i - j)) := opI0 fun _ _ _ _ _ _ _ q => sub_int q
theorem op_mul : OpR X (binaryOp .Mult) (rI CMul fun i j => .int (i * j)) := opI fun _ _ _ _ _ _ _ hc q => mul_int q hc.ok
theorem op_fdiv : OpR X (binaryOp .FloorDiv) (rI CDiv fun i j => .int (i / j)) := opI fun i j _ _ _ _ _ hc q => by
  have h1 : (0 : Int) < j := hc.1
  have h2 : j < 1073741824 := hc.2
  exact floordiv_int (by omega) (by rw [Int.fdiv_eq_ediv_of_nonneg i (by omega)]; exact q) (.inl (PyProof.noPylong_small (by omega)))
theorem op_shr : OpR X (binaryOp .RShift) (rI (fun _ j => 0 ≤ j) fun i j => .int (i / 2 ^ j.toNat)) := opI fun i j _ _ _ _ _ hc q =>
  rshift_int hc (by rw [Int.fdiv_eq_ediv_of_nonneg i (two_pow_nn _)]; exact q)
theorem op_and : OpR X (binaryOp .BitAnd) (rI0 fun i j => .int (Builtin.bitAnd i j)) := opI0 fun _ _ _ _ _ _ _ q => and_int q
theorem unI {f : Value → Sem Value} {g : Int → Int}
    (rule : ∀ (i : Int) (t : Tok) (s : Shared) (Q : Value → Shared → Prop) (E : Value → Shared → Prop), Q (.int (g i) s.toks) { s with toks := s.toks + 1 } → wpAny (model X.prog X.w) X.A (f (.int i t)) Q E s) :
    UnR X f (rU fun i => .int (g i)) := by
  intro pins s σ H x v Q I rx h
  obtain ⟨i, rfl, q⟩ := h
  obtain ⟨t, rfl⟩ := rx
  exact rule i t s _ _ ⟨.int (g i), H, I.tok _, ⟨_, rfl⟩, q⟩
theorem un_neg : UnR X (unaryOp .USub) (rU fun i => .int (-i)) := unI fun _ _ _ _ _ q => neg_int q
end
def scal : V → V → Bool
  | .non, .non => true | .non, .int _ => true | .int _, .non => true | .non, .bl _ => true | .bl _, .non => true | .non, .str _ => true | .str _, .non => true
  | .int _, .int _ => true | .bl _, .bl _ => true | .str _, .str _ => true | .byt _, .byt _ => true
  | .int _, .str _ => true | .str _, .int _ => true | .bl _, .str _ => true | .str _, .bl _ => true
  | _, _ => false
def rEq : R2 := fun x y H Q => scal x y = true ∧ Q (.bl (decide (x = y))) H
def rNe : R2 := fun x y H Q => scal x y = true ∧ Q (.bl (!decide (x = y))) H
theorem dec_int {i j : Int} : decide (V.int i = V.int j) = (i == j) := by
  rw [Bool.eq_iff_iff]
  simp
theorem dec_bl {i j : Bool} : decide (V.bl i = V.bl j) = (i == j) := by
  rw [Bool.eq_iff_iff]
  simp
theorem dec_str {i j : Str} : decide (V.str i = V.str j) = (i == j) := by
  rw [Bool.eq_iff_iff]
  simp
theorem dec_byt {i j : Array UInt8} : decide (V.byt i = V.byt j) = (i.toList == j.toList) := by
  rw [Bool.eq_iff_iff]
  cases i
  cases j
  simp
section
variable {X : Cx} {a b c : Expr} {ta tb tc : TE} {pos : Pos}
theorem fin_bl {pins : List (Addr × Obj)} {σ : St} {H : Hp} {s : Shared} {Q : VK} {k k' : Bool} (I : Inv X pins σ H s) (q : Q (.bl k) H) (e : k = k') : EP X pins σ Q (.bool k') s := by
  subst e
  exact ⟨.bl k, H, I, rfl, q⟩
theorem op_eq : OpR X (compareOp .Eq) rEq := by
  intro pins s σ H x y v u Q I rx ry h
  obtain ⟨hs, q⟩ := h
  cases x with
  | non =>
    cases rx
    cases y with
    | non => cases ry; exact PySem.EqNone.eq_none_none (fin_bl I q (by simp))
    | bl j => cases ry; exact PySem.EqNone.eq_none_bool (fin_bl I q (by simp))
    | int j => obtain ⟨t', rfl⟩ := ry; exact PySem.EqNone.eq_none_int (fin_bl I q (by simp))
    | str j => obtain ⟨t', rfl⟩ := ry; exact PySem.EqNone.eq_none_str (fin_bl I q (by simp))
    | _ => exact absurd (show false = true from hs) Bool.false_ne_true
  | bl i =>
    cases rx
    cases y with
    | non => cases ry; exact PySem.EqNone.eq_bool_none (fin_bl I q (by simp))
    | bl j => cases ry; exact eq_bool (fin_bl I q dec_bl)
    | str j => obtain ⟨t', rfl⟩ := ry; exact PySem.EqMixed.eq_bool_str (fin_bl I q (by simp))
    | _ => exact absurd (show false = true from hs) Bool.false_ne_true
  | int i =>
    obtain ⟨t, rfl⟩ := rx
    cases y with
    | non => cases ry; exact PySem.EqNone.eq_int_none (fin_bl I q (by simp))
    | int j => obtain ⟨t', rfl⟩ := ry; exact eq_int (fin_bl I q dec_int)
    | str j => obtain ⟨t', rfl⟩ := ry; exact PySem.EqMixed.eq_int_str (fin_bl I q (by simp))
    | _ => exact absurd (show false = true from hs) Bool.false_ne_true
  | str i =>
    obtain ⟨t, rfl⟩ := rx
    cases y with
    | non => cases ry; exact PySem.EqNone.eq_str_none (fin_bl I q (by simp))
    | bl j => cases ry; exact PySem.EqMixed.eq_str_bool (fin_bl I q (by simp))
    | int j => obtain ⟨t', rfl⟩ := ry; exact PySem.EqMixed.eq_str_int (fin_bl I q (by simp))
    | str j => obtain ⟨t', rfl⟩ := ry; exact eq_str (fin_bl I q dec_str)
    | _ => exact absurd (show false = true from hs) Bool.false_ne_true
  | byt i =>
    obtain ⟨t, rfl⟩ := rx
    cases y with
    | byt j => obtain ⟨t', rfl⟩ := ry; exact PySem.W.eq_bytes (fin_bl I q dec_byt)
    | _ => exact absurd (show false = true from hs) Bool.false_ne_true
  | _ => cases y <;> exact absurd (show false = true from hs) Bool.false_ne_true
theorem op_ne : OpR X (compareOp .NotEq) rNe := by
  intro pins s σ H x y v u Q I rx ry h
  obtain ⟨hs, q⟩ := h
  cases x with
  | non =>
    cases rx
    cases y with
    | non => cases ry; exact PySem.EqNone.ne_none_none (fin_bl I q (by simp))
    | bl j => cases ry; exact PySem.EqNone.ne_none_bool (fin_bl I q (by simp))
    | int j => obtain ⟨t', rfl⟩ := ry; exact PySem.EqNone.ne_none_int (fin_bl I q (by simp))
    | str j => obtain ⟨t', rfl⟩ := ry; exact PySem.EqNone.ne_none_str (fin_bl I q (by simp))
    | _ => exact absurd (show false = true from hs) Bool.false_ne_true
  | bl i =>
    cases rx
    cases y with
    | non => cases ry; exact PySem.EqNone.ne_bool_none (fin_bl I q (by simp))
    | bl j => cases ry; exact ne_bool (fin_bl I q (congrArg not dec_bl))
    | str j => obtain ⟨t', rfl⟩ := ry; exact PySem.EqMixed.ne_bool_str (fin_bl I q (by simp))
    | _ => exact absurd (show false = true from hs) Bool.false_ne_true
  | int i =>
    obtain ⟨t, rfl⟩ := rx
    cases y with
    | non => cases ry; exact PySem.EqNone.ne_int_none (fin_bl I q (by simp))
    | int j => obtain ⟨t', rfl⟩ := ry; exact ne_int (fin_bl I q (congrArg not dec_int))
    | str j => obtain ⟨t', rfl⟩ := ry; exact PySem.EqMixed.ne_int_str (fin_bl I q (by simp))
    | _ => exact absurd (show false = true from hs) Bool.false_ne_true
  | str i =>
    obtain ⟨t, rfl⟩ := rx
    cases y with
    | non => cases ry; exact PySem.EqNone.ne_str_none (fin_bl I q (by simp))
    | bl j => cases ry; exact PySem.EqMixed.ne_str_bool (fin_bl I q (by simp))
    | int j => obtain ⟨t', rfl⟩ := ry; exact PySem.EqMixed.ne_str_int (fin_bl I q (by simp))
    | str j => obtain ⟨t', rfl⟩ := ry; exact ne_str (fin_bl I q (congrArg not dec_str))
    | _ => exact absurd (show false = true from hs) Bool.false_ne_true
  | byt i =>
    obtain ⟨t, rfl⟩ := rx
    cases y with
    | byt j => obtain ⟨t', rfl⟩ := ry; exact PySem.W.ne_bytes (fin_bl I q (congrArg not dec_byt))
    | _ => exact absurd (show false = true from hs) Bool.false_ne_true
  | _ => cases y <;> exact absurd (show false = true from hs) Bool.false_ne_true
theorem op_lt : OpR X (compareOp .Lt) (rI0 fun i j => .bl (decide (i < j))) := opB0 fun _ _ _ _ _ _ _ q => lt_int q
theorem op_le : OpR X (compareOp .LtE) (rI0 fun i j => .bl (decide (i ≤ j))) := opB0 fun _ _ _ _ _ _ _ q => le_int q
theorem op_gt : OpR X (compareOp .Gt) (rI0 fun i j => .bl (decide (j < i))) := opB0 fun _ _ _ _ _ _ _ q => gt_int q
theorem op_ge : OpR X (compareOp .GtE) (rI0 fun i j => .bl (decide (j ≤ i))) := opB0 fun _ _ _ _ _ _ _ q => ge_int q
theorem op_isN : OpR X (compareOp .Is) (fun x y H Q => y = .non ∧ Q (.bl (decide (x = .non))) H) := by
  intro pins s σ H x y v u Q I rx ry h
  obtain ⟨rfl, q⟩ := h
  cases ry
  refine is_none_gen (fin_bl I q ?_)
  cases x <;> first
    | (cases rx; rfl)
    | (obtain ⟨t, rfl⟩ := rx; rfl)
theorem op_notN : OpR X (compareOp .IsNot) (fun x y H Q => y = .non ∧ Q (.bl (!decide (x = .non))) H) := by
  intro pins s σ H x y v u Q I rx ry h
  obtain ⟨rfl, q⟩ := h
  cases ry
  refine isnot_none_gen (fin_bl I q ?_)
  cases x <;> first
    | (cases rx; rfl)
    | (obtain ⟨t, rfl⟩ := rx; rfl)
theorem nomark (b : Expr) {op : CmpOp} (h : op ≠ .In := by decide) (h2 : op ≠ .NotIn := by decide) : behindInMarks op b = false := by
  have e1 : (op == CmpOp.In) = false := by cases op <;> first | rfl | exact absurd rfl h
  have e2 : (op == CmpOp.NotIn) = false := by cases op <;> first | rfl | exact absurd rfl h2
  cases b <;> simp [behindInMarks, e1, e2]
theorem pe_cmpR {op : CmpOp} {r : R2} (ho : OpR X (compareOp op) r) (ha : PE X a ta) (hb : PE X b tb) (hm : behindInMarks op b = false) : PE X (.Compare a [op] [b] pos) (tOp r ta tb) := by
  intro pins s σ H Q I h
  exact wpAny_Compare1 (binT ha hb I h fun v u s2 x y H2 I2 rx ry q => ho pins s2 σ H2 x y v u Q I2 rx ry q) hm
def tTest (t : TE) : TT := fun σ H Q => t σ H fun x H' => ∃ k, x = .bl k ∧ Q k H'
theorem pt_cmpR {op : CmpOp} {r : R2} (ho : OpR X (compareOp op) r) (ha : PE X a ta) (hb : PE X b tb) (hm : behindInMarks op b = false) : PT X (.Compare a [op] [b] pos) (tTest (tOp r ta tb)) := by
  intro pins s σ H Q I h
  refine wpAny_isTrue_Compare1 (thn (ha pins s σ H _ I h) fun v s1 ⟨x, H1, I1, r1, q1⟩ => thn (hb pins s1 σ H1 _ I1 q1) fun u s2 ⟨y, H2, I2, r2, q2⟩ =>
    thn (ho pins s2 σ H2 x y v u _ I2 r1 r2 q2) fun c s3 ⟨z, H3, I3, r3, k, e, q3⟩ => ?_) hm
  subst e
  cases r3
  exact wpAny_truthy_bool ⟨H3, I3, q3⟩
def tChain (r r' : R2) (ta tb tc : TE) : TE := fun σ H Q => ta σ H fun x H1 => tb σ H1 fun y H2 => r x y H2 fun z H3 => ∃ k, z = .bl k ∧
  (if k = true then tc σ H3 fun w' H4 => r' y w' H4 Q else Q (.bl false) H3)
theorem pe_chain {op op' : CmpOp} {r r' : R2} (ho : OpR X (compareOp op) r) (ho' : OpR X (compareOp op') r') (ha : PE X a ta) (hb : PE X b tb) (hc : PE X c tc)
    (hm : lastMarks [op, op'] [b, c] = false := by with_unfolding_all rfl) : PE X (.Compare a [op, op'] [b, c] pos) (tChain r r' ta tb tc) := by
  intro pins s σ H Q I h
  refine Compare_chain (thn (ha pins s σ H _ I h) fun v s1 ⟨x, H1, I1, r1, q1⟩ => chain_link (thn (hb pins s1 σ H1 _ I1 q1) fun u s2 ⟨y, H2, I2, r2, q2⟩ =>
    thn (ho pins s2 σ H2 x y v u _ I2 r1 r2 q2) fun d s3 ⟨z, H3, I3, r3, k, e, q3⟩ => ?_)) hm
  subst e
  cases r3
  refine wpAny_truthy_bool ?_
  cases k with
  | false => exact ite_ff ⟨.bl false, H3, I3, rfl, q3⟩
  | true => exact ite_tt (chain_last (thn (hc pins s3 σ H3 _ I3 q3) fun w' s4 ⟨z', H4, I4, r4, q4⟩ => ho' pins s4 σ H4 y z' u w' Q I4 r2 r4 q4))
theorem pt_chain {op op' : CmpOp} {r r' : R2} (ho : OpR X (compareOp op) r) (ho' : OpR X (compareOp op') r') (ha : PE X a ta) (hb : PE X b tb) (hc : PE X c tc)
    (hm : lastMarks [op, op'] [b, c] = false := by with_unfolding_all rfl) : PT X (.Compare a [op, op'] [b, c] pos) (tTest (tChain r r' ta tb tc)) := by
  intro pins s σ H Q I h
  refine isTrue_chain (thn (ha pins s σ H _ I h) fun v s1 ⟨x, H1, I1, r1, q1⟩ => test_link (thn (hb pins s1 σ H1 _ I1 q1) fun u s2 ⟨y, H2, I2, r2, q2⟩ =>
    thn (ho pins s2 σ H2 x y v u _ I2 r1 r2 q2) fun d s3 ⟨z, H3, I3, r3, k, e, q3⟩ => ?_)) hm
  subst e
  cases r3
  refine wpAny_truthy_bool ?_
  cases k with
  | false =>
    obtain ⟨k', e', q'⟩ := q3
    cases e'
    exact ite_ff ⟨H3, I3, q'⟩
  | true =>
    refine ite_tt (test_last (thn (hc pins s3 σ H3 _ I3 q3) fun w' s4 ⟨z', H4, I4, r4, q4⟩ => thn (ho' pins s4 σ H4 y z' u w' _ I4 r2 r4 q4) fun d' s5 ⟨z2, H5, I5, r5, k2, e2, q5⟩ => ?_))
    subst e2
    cases r5
    exact wpAny_truthy_bool ⟨H5, I5, q5⟩
theorem line63 : (sizeLine : Nat) < 2 ^ 63 := by rw [sizeLine_eq]; decide
theorem vals1 {x : V} {us : List Value} (r : Vals [x] us) : ∃ u, us = [u] ∧ RelV x u := by
  cases r with
  | cons r1 r2 => cases r2; exact ⟨_, rfl, r1⟩
end
end L2
namespace L2
open PySem PySem.Spec PyProof.Rows
structure ObjM (h : Heap) (x dx C : Addr) (mA : Str → Option Value) : Prop where
  obj : h.get? x = some (PySem.W.instObj C dx)
  ns : h.Ns1 dx mA
  ne : dx ≠ x
theorem lookIn_ns {h : Heap} {dx : Addr} {mA : Str → Option Value} (n : h.Ns1 dx mA) : ∃ od, h.get? dx = some od ∧ ∀ name, PySem.W.lookIn name od = some (mA name) := by
  obtain ⟨o, es, ep, ho, hd, hk, _, hm⟩ := n
  refine ⟨o, ho, fun name => ?_⟩
  have e := hm name
  unfold nsFind findBy at e
  rw [← Array.find?_toList] at e
  unfold PySem.W.lookIn
  rw [hd]
  dsimp only
  split
  · rename_i y q
    rw [q] at e
    exact congrArg some e
  · rename_i q
    rw [q] at e
    have a : es.toList.any (·.refKey) = false := by
      rw [List.any_eq_false]
      intro y hy
      obtain ⟨z, t, hkey⟩ := hk y (Array.mem_toList_iff.mp hy)
      simp [DictEntry.refKey, hkey]
    have a' : ¬ es.toList.any (·.refKey) = true := by rw [a]; exact Bool.false_ne_true
    rw [if_neg a']
    exact congrArg some e
theorem ObjM.look {h : Heap} {x dx C : Addr} {mA : Str → Option Value} (I : ObjM h x dx C mA) : ∃ od, PySem.W.InstAt h x (PySem.W.instObj C dx) C (some od) ∧ ∀ name, PySem.W.lookIn name od = some (mA name) :=
  let ⟨od, ho, hl⟩ := lookIn_ns I.ns
  ⟨od, ⟨I.obj, rfl, rfl, ho⟩, hl⟩
section
variable {prog : Program} {w : World} {A : Around} {E : Value → Shared → Prop} {s : Shared} {K : PySem.W.Frag} {x dx C f : Addr} {mA : Str → Option Value} {name : Str} {v : Value}
theorem get_map {expr : Bool} {Q : Value → Shared → Prop} (X : K.In s.heap) (I : ObjM s.heap x dx C mA) (hg : PySem.W.plainGet K C name = true) (hh : PySem.W.hasDictIn K C = true)
    (ha : PySem.W.findIn K (.ref C) name = some none) (hv : mA name = some v) (hv' : PySem.W.handedIn v = true) (h : Q v { s with toks := s.toks + 1 }) :
    wpAny (model prog w) A (getAttr (.ref x) name expr) Q E s := by
  obtain ⟨od, J, hl⟩ := I.look
  exact PySem.W.get_value X J (PySem.W.plainGet_of hg).1 (PySem.W.findObj_own hh ha rfl (by rw [hl, hv])) hv' h
theorem get_meth {pl : Sem Bool} {Q : Value × List Value → Shared → Prop} (X : K.In s.heap) (I : ObjM s.heap x dx C mA) (hg : PySem.W.plainGet K C name = true)
    (hf : PySem.W.findIn K (.ref C) name = some (some (.ref f))) (ht : PySem.W.isFn K (.ref f) = true) (hv : mA name = none) (h : Q (.ref f, [.ref x]) s) :
    wpAny (model prog w) A (getMethod (.ref x) name pl) Q E s := by
  obtain ⟨od, J, hl⟩ := I.look
  exact PySem.W.method_fn X J (PySem.W.plainGet_of hg).1 (PySem.W.plainGet_of hg).2 hf (beq_iff_eq.mp ht) (by show (PySem.W.lookIn name od).map (·.isSome) = some false; rw [hl, hv]; rfl) h
theorem set_map {ns : List Str} {Q : Unit → Shared → Prop} (X : K.In s.heap) (I : ObjM s.heap x dx C mA)
    (hs : PySem.W.findIn K (.ref C) "__setattr__" = some (some (.builtin "object.__setattr__"))) (hp : PySem.W.plainOver K C = true) (ht : PySem.W.takerIn K C name = some none) (hh : PySem.W.hasDictIn K C = true)
    (hw : PySem.Within mA ns) (hsz : ns.length ≤ sizeLine)
    (h : ∀ h', ObjM h' x dx C (fun y => if y = name then some v else mA y) → Heap.SameBut dx s.heap h' → Q () { s with heap := h', toks := s.toks + 2 }) :
    wpAny (model prog w) A (setAttr (.ref x) name v) Q E s := by
  obtain ⟨od, J, hl⟩ := I.look
  refine PySem.W.set_plain X J hs (PySem.W.osa_open (s := { s with toks := s.toks + 1 }) (r := none) X J hp ht fun b => ?_)
  obtain ⟨cd, hc, hd'⟩ := PySem.W.any_some hh
  have hx : s.heap.get? x = some ⟨.ref C, some dx, .plain, #[]⟩ := I.obj
  refine wpAny_bind (wpAny_pure (wpAny_bind (wpAny_bind (wpAny_loadPart hx (wpAny_bind (PySem.W.Looks.here (s := { s with toks := s.toks + 1 }) (PySem.W.looks_clsIn X hc) ?_))))))
  rw [hd']
  refine wpAny_pure (a := some dx) (wpAny_bind (wpAny_pure (wpAny_bind ?_)))
  refine wpAny_nsSet1 (s := { s with toks := s.toks + 1 }) I.ns fun h' hn2 hs2 => ?_
  obtain ⟨oD, esD, epD, hoD, hdD, hcD⟩ := hn2.count (PySem.Within.cons name v hw)
  refine wpAny_bind (wpAny_lookBehind hoD (by rw [hdD]; exact pastItsLine_dict (Nat.le_trans hcD (by rw [List.length_cons]; omega))) ?_)
  exact wpAny_pure (h _ ⟨(hs2.2 _ (Ne.symm I.ne)).trans I.obj, hn2, I.ne⟩ hs2)
theorem make_map {R : Result → Shared → Prop} {vs : List Value} {kw : List (Str × Value)} (X : K.In s.heap) (hm : PySem.W.makesIn K C = true)
    (hi : PySem.W.findIn K (.ref C) "__init__" = some (some (.ref f))) (hf : PySem.W.typeIn K (.ref f) = some (.type "function"))
    (h : codeAny (model prog w) (A.under (.builtin "type.__call__" ⟨.ref C :: vs, kw⟩)) (.call (.ref f) ⟨.ref (s.heap.objs.size + 1) :: vs, kw⟩) (PySem.W.InitBack (s.heap.objs.size + 1) R)
      { s with heap := (s.heap.push PySem.W.emptyDict).push (PySem.W.instObj C s.heap.objs.size) }) :
    codeAny (model prog w) A (.call (.ref C) ⟨vs, kw⟩) R s := by
  obtain ⟨hh, g, d, t, os⟩ := s
  exact PySem.W.make_core (PySem.W.makes_of X hm) (PySem.W.looks_findIn X hi) (fun self => PySem.W.bind_fn X self hf) (.inl rfl) h
end
def putF (f : Str) (v : V) : List (Str × V) → List (Str × V)
  | [] => [(f, v)]
  | (g, x) :: r => if g = f then (g, v) :: r else (g, x) :: putF f v r
theorem lookup_putF (f g : Str) (v : V) : ∀ fs : List (Str × V), (putF f v fs).lookup g = if g = f then some v else fs.lookup g
  | [] => by
    show List.lookup g [(f, v)] = _
    by_cases h : g = f
    · have hb : (g == f) = true := beq_iff_eq.mpr h
      simp only [List.lookup, hb, if_pos h]
    · have hb : (g == f) = false := beq_eq_false_iff_ne.mpr h
      simp only [List.lookup, hb, if_neg h]
  | (k, x) :: r => by
    have ih := lookup_putF f g v r
    rw [show putF f v ((k, x) :: r) = (if k = f then (k, v) :: r else (k, x) :: putF f v r) from rfl]
    by_cases hk : k = f
    · rw [if_pos hk]
      by_cases h : g = k
      · have hb : (g == k) = true := beq_iff_eq.mpr h
        simp only [List.lookup, hb, if_pos (h.trans hk)]
      · have hb : (g == k) = false := beq_eq_false_iff_ne.mpr h
        simp only [List.lookup, hb, if_neg (fun e : g = f => h (e.trans hk.symm))]
    · rw [if_neg hk]
      by_cases h : g = k
      · have hb : (g == k) = true := beq_iff_eq.mpr h
        simp only [List.lookup, hb, if_neg (fun e : g = f => hk (h.symm.trans e))]
      · have hb : (g == k) = false := beq_eq_false_iff_ne.mpr h
        simp only [List.lookup, hb]
        exact ih
theorem keys_putF (f : Str) (v : V) : ∀ fs : List (Str × V), f ∈ (putF f v fs).map (·.1) ∧ ∀ g, g ∈ fs.map (·.1) → g ∈ (putF f v fs).map (·.1)
  | [] => ⟨by simp [putF], fun g h => by simp at h⟩
  | (k, x) :: r => by
    obtain ⟨i1, i2⟩ := keys_putF f v r
    rw [show putF f v ((k, x) :: r) = (if k = f then (k, v) :: r else (k, x) :: putF f v r) from rfl]
    by_cases hk : k = f
    · rw [if_pos hk]
      subst hk
      exact ⟨by simp, fun g h => by simpa using h⟩
    · rw [if_neg hk]
      refine ⟨?_, fun g h => ?_⟩
      · rw [List.map_cons]
        exact List.mem_cons_of_mem _ i1
      · rw [List.map_cons] at h ⊢
        rcases List.mem_cons.mp h with e | e
        · exact List.mem_cons.mpr (.inl e)
        · exact List.mem_cons_of_mem _ (i2 g e)
theorem length_putF (f : Str) (v : V) : ∀ fs : List (Str × V), (putF f v fs).length ≤ fs.length + 1
  | [] => by simp [putF]
  | (k, x) :: r => by
    have ih := length_putF f v r
    rw [show putF f v ((k, x) :: r) = (if k = f then (k, v) :: r else (k, x) :: putF f v r) from rfl]
    by_cases hk : k = f
    · rw [if_pos hk, List.length_cons, List.length_cons]; omega
    · rw [if_neg hk, List.length_cons, List.length_cons]; omega
theorem RelO.some_of {v : V} {o : Option Value} (r : RelO (some v) o) : ∃ u, o = some u ∧ RelV v u := by
  cases o with
  | none => exact (show False from r).elim
  | some u => exact ⟨u, rfl, r⟩
theorem RelO.none_of {o : Option Value} (r : RelO none o) : o = none := by
  cases o with
  | none => rfl
  | some u => exact (show False from r).elim
theorem handed_of {v : V} {u : Value} (r : RelV v u) : PySem.W.handedIn u = true := by
  cases v with
  | non => cases (show u = Value.none from r); rfl
  | bl b => cases (show u = Value.bool b from r); rfl
  | int i => obtain ⟨t, e⟩ := (show ∃ t, u = Value.int i t from r); cases e; rfl
  | str x => obtain ⟨t, e⟩ := (show ∃ t, u = Value.str x t from r); cases e; rfl
  | byt b => obtain ⟨t, e⟩ := (show ∃ t, u = Value.bytes b t from r); cases e; rfl
  | flt b => obtain ⟨t, e⟩ := (show ∃ t, u = Value.float b t from r); cases e; rfl
  | ref a => cases (show u = Value.ref a from r); rfl
  | ty n => cases (show u = Value.type n from r); rfl
section
variable {P : Program} {w : World} {H H' : Hp} {h h' : Heap} {a C dx : Addr} {fs fs' : List (Str × V)}
theorem ins_get (hok : HOk P w H h) (e : H a = some (.ins C dx fs)) : ∃ mA, ObjM h a dx C mA ∧ (∀ f, RelO (fs.lookup f) (mA f)) ∧ PySem.Within mA (fs.map (·.1)) ∧ fs.length ≤ 1000 ∧ H dx = some (.own a) := by
  obtain ⟨d, z, ne, ob, mA, n, r, q⟩ := (show ObjOk P w H h a (.ins C dx fs) from hok a _ e)
  exact ⟨mA, ⟨ob, n, ne⟩, r, q, z, d⟩
end
structure Cls (K : PySem.W.Frag) (C : Addr) : Prop where
  pg : PySem.W.plainGet K C Str.empty = true
  hd : PySem.W.hasDictIn K C = true
  po : PySem.W.plainOver K C = true
  sa : PySem.W.findIn K (.ref C) "__setattr__" = some (some (.builtin "object.__setattr__"))
theorem Cls.get {K : PySem.W.Frag} {C : Addr} (c : Cls K C) (f : Str) : PySem.W.plainGet K C f = true := c.pg
def NoAttr (K : PySem.W.Frag) (C : Addr) (f : Str) : Prop := PySem.W.findIn K (.ref C) f = some none
theorem NoAttr.taker {K : PySem.W.Frag} {C : Addr} {f : Str} (n : NoAttr K C f) : PySem.W.takerIn K C f = some none := by
  unfold PySem.W.takerIn
  rw [show PySem.W.findIn K (.ref C) f = some none from n]
  rfl
structure Meth (K : PySem.W.Frag) (C : Addr) (m : Str) (f : Addr) : Prop where
  at_ : PySem.W.findIn K (.ref C) m = some (some (.ref f))
  fn : PySem.W.isFn K (.ref f) = true
  kp : PySem.W.keepIn K (.ref f) = true
section
variable {X : Cx} {pins : List (Addr × Obj)} {σ : St} {H : Hp} {s : Shared} {a C dx : Addr} {fs : List (Str × V)} {f : Str} {v : V} {A : Around} {E : Value → Shared → Prop}
theorem getattr_ok {b : Bool} {Q : Value → Shared → Prop} (I : Inv X pins σ H s) (e : H a = some (.ins C dx fs)) (c : Cls X.K C) (n : NoAttr X.K C f) (l : fs.lookup f = some v)
    (h : ∀ u s', Inv X pins σ H s' → RelV v u → Q u s') : wpAny (model X.prog X.w) A (getAttr (.ref a) f b) Q E s := by
  obtain ⟨mA, O, r, _, _, _⟩ := ins_get I.hok e
  obtain ⟨u, hu, ru⟩ := RelO.some_of (v := v) (o := mA f) (by rw [← l]; exact r f)
  exact get_map I.kIn O (c.get f) c.hd n hu (handed_of ru) (h u _ (I.tok _) ru)
theorem getmeth_ok {m : Str} {g : Addr} {pl : Sem Bool} {Q : Value × List Value → Shared → Prop} (I : Inv X pins σ H s) (e : H a = some (.ins C dx fs)) (c : Cls X.K C) (k : Meth X.K C m g) (l : fs.lookup m = none)
    (h : Q (.ref g, [.ref a]) s) : wpAny (model X.prog X.w) A (getMethod (.ref a) m pl) Q E s := by
  obtain ⟨mA, O, r, _, _, _⟩ := ins_get I.hok e
  have hn : mA m = none := RelO.none_of (by rw [← l]; exact r m)
  exact get_meth I.kIn O (c.get m) k.at_ k.fn hn h
theorem setattr_ok {y : V} {u : Value} {Q : Unit → Shared → Prop} (I : Inv X pins σ H s) (e : H a = some (.ins C dx fs)) (c : Cls X.K C) (n : NoAttr X.K C f) (hl : fs.length < 1000) (ry : RelV y u)
    (h : ∀ s', Inv X pins σ (upd H a (.ins C dx (putF f y fs))) s' → Q () s') : wpAny (model X.prog X.w) A (setAttr (.ref a) f u) Q E s := by
  obtain ⟨mA, O, r, wi, _, ho⟩ := ins_get I.hok e
  have hz : (fs.map (·.1)).length ≤ sizeLine := by rw [List.length_map, sizeLine_eq]; omega
  refine set_map I.kIn O c.sa c.po n.taker c.hd wi hz fun h' O' sb => h _ ?_
  have hd : ∃ o, h'.get? dx = some o := let ⟨o, _, _, e', _⟩ := O'.ns; ⟨o, e'⟩
  refine I.write (x := a) (e := dx) (by rw [e]; exact True.intro) (.inr ho) (fun b q hb z => (sb.2 b hb).trans z) hd ?_
  refine ⟨by rw [upd_ne O.ne]; exact ho, ?_, O.ne, O'.obj, _, O'.ns, fun g => ?_, fun g hg => ?_⟩
  · have := length_putF f y fs; omega
  · show RelO ((putF f y fs).lookup g) (if g = f then some u else mA g)
    rw [lookup_putF]
    by_cases q : g = f
    · rw [if_pos q, if_pos q]; exact ry
    · rw [if_neg q, if_neg q]; exact r g
  · by_cases q : g = f
    · rw [q]; exact (keys_putF f y fs).1
    · refine (keys_putF f y fs).2 g (wi g fun z => hg ?_)
      show (if g = f then some u else mA g) = none
      rw [if_neg q]; exact z
theorem Inv.made (I : Inv X pins σ H s) : Inv X pins σ (upd (upd H s.heap.objs.size (.own (s.heap.objs.size + 1))) (s.heap.objs.size + 1) (.ins C s.heap.objs.size []))
    { s with heap := (s.heap.push PySem.W.emptyDict).push (PySem.W.instObj C s.heap.objs.size) } := by
  have e1 : (s.heap.push PySem.W.emptyDict).get? s.heap.objs.size = some PySem.W.emptyDict := Heap.get?_push_size s.heap rfl
  have e2 : ((s.heap.push PySem.W.emptyDict).push (PySem.W.instObj C s.heap.objs.size)).get? (s.heap.objs.size + 1) = some (PySem.W.instObj C s.heap.objs.size) := by
    have := Heap.get?_push_size (s.heap.push PySem.W.emptyDict) (o := PySem.W.instObj C s.heap.objs.size) rfl
    rwa [Heap.size_push] at this
  have e3 : (s.heap.push PySem.W.emptyDict).Ns s.heap.objs.size (fun _ => none) := ⟨PySem.W.emptyDict, #[], _, e1, rfl, (fun e he => absurd he (by simp)), fun _ => rfl⟩
  have I1 := I.laid (a := s.heap.objs.size) (o := .own (s.heap.objs.size + 1)) (h' := s.heap.push PySem.W.emptyDict) (t' := s.toks) (fun b u q => Heap.get?_push_of_some _ q) (Nat.le_refl _) ⟨_, e1⟩
  refine I1.laid (a := s.heap.objs.size + 1) (o := .ins C s.heap.objs.size []) (t' := s.toks) (fun b u q => Heap.get?_push_of_some _ q) (Nat.le_of_eq (Heap.size_push _ _)) ?_
  have ne : s.heap.objs.size ≠ s.heap.objs.size + 1 := Nat.ne_of_lt (Nat.lt_succ_self _)
  refine ⟨by rw [upd_ne ne, upd_same], Nat.zero_le _, ne, e2, fun _ => none, (Heap.Ns1.of_empty e3).at fun o q => Heap.get?_push_of_some _ q, fun _ => True.intro, fun y hy => absurd rfl hy⟩
theorem attr_of {prog : Program} {w : World} {env : Env} {e : Expr} {f : Str} {pos : Pos} {s : Shared} {Q : Value → Shared → Prop} (hb : attributeBase e f env (eval e env) = eval e env)
    (h : wpAny (model prog w) A (eval e env) (fun o s₁ => wpAny (model prog w) A (getAttr o f true) Q E s₁) E s) : wpAny (model prog w) A (eval (.Attribute e f pos) env) Q E s :=
  Attribute_any_ h (by rw [arm_eval_Attribute, hb])
end
def tFld (K : PySem.W.Frag) (ta : TE) (f : Str) : TE := fun σ H Q => ta σ H fun x H1 => ∃ a C dx fs v, x = .ref a ∧ H1 a = some (.ins C dx fs) ∧ Cls K C ∧ NoAttr K C f ∧ fs.lookup f = some v ∧ Q v H1
def sFld (K : PySem.W.Frag) (ta tv : TE) (f : Str) : TS := fun D σ H => tv σ H fun y H1 => ta σ H1 fun x H2 => ∃ a C dx fs, x = .ref a ∧ H2 a = some (.ins C dx fs) ∧ Cls K C ∧ NoAttr K C f ∧ fs.length < 1000 ∧
  D.nx σ (upd H2 a (.ins C dx (putF f y fs)))
section
variable {X : Cx} {o e value : Expr} {f : Str} {pos pos' tpos : Pos} {ta tv : TE}
theorem pe_fld (he : PE X e ta) (hb : attributeBase e f X.env (eval e X.env) = eval e X.env) : PE X (.Attribute e f pos) (tFld X.K ta f) := by
  intro pins s σ H Q I h
  refine attr_of hb (thn (he pins s σ H _ I h) fun u s1 ⟨x, H1, I1, rx, a, C, dx, fs, v, ex, ea, c, n, l, q⟩ => ?_)
  subst ex
  obtain rfl : u = Value.ref a := rx
  exact getattr_ok I1 ea c n l fun u' s2 I2 ru => ⟨v, H1, I2, ru, q⟩
theorem ps_fld (ha : PE X o ta) (hv : PE X value tv) (hs : swapsWith value (some (.Attribute o f pos')) pos.line X.env = pure false) : PS X (.Assign [.Attribute o f pos'] value pos) (sFld X.K ta tv f) := by
  intro pins s σ H D I h
  refine plainObj_wpAny_Assign_Attribute (thn (hv pins s σ H _ I h) fun u s1 ⟨y, H1, I1, ry, q⟩ => thn (ha pins s1 σ H1 _ I1 q) fun ov s2 ⟨x, H2, I2, rx, a, C, dx, fs, ex, ea, c, n, l, q2⟩ => ?_) hs
  subst ex
  obtain rfl : ov = Value.ref a := rx
  exact setattr_ok I2 ea c n l ry fun s3 I3 => ⟨σ, _, I3, q2⟩
theorem methcall_of {pl : Sem Bool} {m : Str} {apos : Pos} {args : List Expr} {pins : List (Addr × Obj)} {s : Shared} {σ : St} {H : Hp} {Q : Value → Shared → Prop} {te : TE} (he : PE X e te) (I : Inv X pins σ H s)
    (h : te σ H fun x H1 => ∃ a C dx fs g, x = .ref a ∧ H1 a = some (.ins C dx fs) ∧ Cls X.K C ∧ Meth X.K C m g ∧ fs.lookup m = none ∧
      ∀ s1, Inv X pins σ H1 s1 → wpAny (model X.prog X.w) X.A (callWith pos (.ref g) [.ref a] (backTo pos (starEach args X.env)) (backToKw pos (keywordEach [] X.env))) Q X.xe s1)
    (ht : eval (.Call (.Attribute e m apos) args [] pos) X.env = (do
      let ov ← eval e X.env
      standAt apos.atName
      let (f, first) ← holding [ov] (getMethod ov m pl)
      callWith pos f first (backTo pos (starEach args X.env)) (backToKw pos (keywordEach [] X.env)))) :
    wpAny (model X.prog X.w) X.A (eval (.Call (.Attribute e m apos) args [] pos) X.env) Q X.xe s := by
  refine PySem.W.methodCall_KW (pl := pl) (thn (he pins s σ H _ I h) fun u s1 ⟨x, H1, I1, rx, a, C, dx, fs, g, ex, ea, c, k, l, q⟩ => ?_) ht
  subst ex
  obtain rfl : u = Value.ref a := rx
  exact getmeth_ok I1 ea c k l (q s1 I1)
end
section
variable {X : Cx} {pins : List (Addr × Obj)} {σ : St} {H : Hp} {s : Shared} {A : Around} {E : Value → Shared → Prop} {Q : Value → Shared → Prop} {c : Value} {b : Bool}
end
end L2
namespace L2
open PySem PySem.Spec PyProof.Rows
structure Room (k : Nat) (A : Around) : Prop where
  hd : A.handled = none
  dp : A.depth + 3 * k + 5 < recursionLimit
  un : A.units + 16 * k + 200 < cLine
theorem Room.mono {j k : Nat} {A : Around} (r : Room k A) (h : j ≤ k) : Room j A := ⟨r.hd, by have := r.dp; omega, by have := r.un; omega⟩
theorem Room.deeper {k : Nat} {A : Around} (r : Room (k + 1) A) (env : Env) : Room k (A.deeper env) :=
  ⟨r.hd, by have := r.dp; show A.depth + 1 + 3 * k + 5 < _; omega, by have := r.un; show A.units + 3 + 16 * k + 200 < _; omega⟩
theorem Room.in1 {k : Nat} {A : Around} (r : Room (k + 1) A) : Room k A.in1 :=
  ⟨r.hd, by have := r.dp; show A.depth + 3 * k + 5 < _; omega, by have := r.un; show A.units + 1 + 16 * k + 200 < _; omega⟩
theorem make_depth {A : Around} {C : Addr} {us : List Value} {kw : List (Str × Value)} : (A.under (.builtin "type.__call__" ⟨.ref C :: us, kw⟩)).depth = A.depth + 1 := by
  first | rfl | simp [Around.under, Code.weight, Code.isCreation, Code.isGuard, Code.isCaller, Code.frames, Code.isFrame, guardIds]
theorem make_units {A : Around} {C : Addr} {us : List Value} {kw : List (Str × Value)} : (A.under (.builtin "type.__call__" ⟨.ref C :: us, kw⟩)).units = A.units + 1 := by
  first | rfl | simp [Around.under, Code.cUnits, Code.frames, Code.isFrame]
theorem Room.make {k : Nat} {A : Around} (r : Room (k + 1) A) (C : Addr) (us : List Value) (kw : List (Str × Value)) : Room k (A.under (.builtin "type.__call__" ⟨.ref C :: us, kw⟩)) :=
  ⟨r.hd, by have := r.dp; rw [make_depth]; omega, by have := r.un; rw [make_units]; omega⟩
theorem Room.depth {k : Nat} {A : Around} (r : Room k A) : A.depth < recursionLimit := by have := r.dp; omega
theorem Room.units {k : Nat} {A : Around} (r : Room k A) : A.units + 64 < cLine := by have := r.un; omega
theorem Room.units0 {k : Nat} {A : Around} (r : Room k A) : A.units < cLine := by have := r.un; omega
def tNil : TA := fun _ H Q => Q [] H
def tCons (ta : TE) (tr : TA) : TA := fun σ H Q => ta σ H fun x H1 => tr σ H1 fun xs H2 => Q (x :: xs) H2
section
variable {X : Cx} {e : Expr} {es : List Expr} {te : TE} {t : TA} {pos : Pos}
theorem pa_nil : PA X [] tNil := fun _ _ _ _ H Q I h => Calls.spliced_nil ⟨[], H, I, .nil, h⟩
theorem pa_cons (ha : PE X e te) (hr : PA X es t) (hs : starEach (e :: es) X.env = (false, eval e X.env) :: starEach es X.env := by rfl) : PA X (e :: es) (tCons te t) := by
  intro pos pins s σ H Q I h
  rw [hs]
  show wpAny _ _ (spliced ((false, eval e X.env) :: backTo pos (starEach es X.env))) _ _ s
  refine Calls.spliced_cons (thn (ha pins s σ H _ I h) fun u s1 ⟨x, H1, I1, r1, q1⟩ => ?_)
  exact thn (hr pos pins s1 σ H1 _ I1 q1) fun us s2 ⟨xs, H2, I2, r2, q2⟩ => ⟨x :: xs, H2, I2, .cons r1 r2, q2⟩
def tTup (t : TA) : TE := fun σ H Q => t σ H fun xs H1 => xs.length ≤ sizeLine ∧ ∀ p, H1 p = none → Q (.ref p) (upd H1 p (.tup xs))
def tLst (t : TA) : TE := fun σ H Q => t σ H fun xs H1 => xs.length ≤ sizeLine ∧ ∀ p, H1 p = none → Q (.ref p) (upd H1 p (.lst xs))
theorem pe_tup {x1} (h : PA X es t) : PE X (.Tuple es x1 pos) (tTup t) := by
  intro pins s σ H Q I hq
  refine wpAny_Tuple_spliced (thn (h pos pins s σ H _ I hq) fun us s1 ⟨xs, H1, I1, r, z, q⟩ => ⟨by rw [← r.length]; exact z, ?_⟩)
  have hf : H1 s1.heap.objs.size = none := I1.hok.fresh (Nat.le_refl _)
  refine ⟨.ref s1.heap.objs.size, upd H1 s1.heap.objs.size (.tup xs), I1.laid (t' := s1.toks) (fun b u e => Heap.get?_push_of_some _ e) (Nat.le_refl _) ?_, rfl, q _ hf⟩
  exact ⟨z, us, r, ⟨_, Heap.get?_push_size _ rfl, rfl, _, rfl⟩⟩
theorem pe_lst (h : PA X es t) : PE X (.List es pos) (tLst t) := by
  intro pins s σ H Q I hq
  refine wpAny_List_spliced (thn (h pos pins s σ H _ I hq) fun us s1 ⟨xs, H1, I1, r, z, q⟩ => ⟨by rw [← r.length]; exact z, ?_⟩)
  have hf : H1 s1.heap.objs.size = none := I1.hok.fresh (Nat.le_refl _)
  refine ⟨.ref s1.heap.objs.size, upd H1 s1.heap.objs.size (.lst xs), I1.laid (t' := s1.toks) (fun b u e => Heap.get?_push_of_some _ e) (Nat.le_refl _) ?_, rfl, q _ hf⟩
  exact ⟨z, us, 0, r, Heap.get?_push_size _ rfl⟩
end
abbrev Sp := List V → Hp → VK → XK → Prop
abbrev CXT := List Env → Hp → Shared → XK → Value → Shared → Prop
structure Env0 (P : Program) (w : World) (K : PySem.W.Frag) (mg : Str → Option Value) (base : Heap) (A : Around) (outer : List Env) (s : Shared) (H : Hp) : Prop where
  frames : A.frames = some outer
  mod : Mod K mg base
  bs : ∀ b o, base.get? b = some o → s.heap.get? b = some o ∧ H b = none
  bsz : base.objs.size ≤ s.heap.objs.size
  funs : s.heap.FunFrames base outer
  frf : ∀ b ∈ frs outer, H b = none
  hok : HOk P w H s.heap
  bare : AllBare s.gens
def CE (outer : List Env) (P : Program) (w : World) (H : Hp) (s : Shared) (Q : VK) (u : Value) (s' : Shared) : Prop :=
  ∃ v H', s'.os = s.os ∧ AllBare s'.gens ∧ Un (frs outer) [] H H' s.heap s'.heap ∧ HOk P w H' s'.heap ∧ RelV v u ∧ Q v H'
def CR (CX : CXT) (outer : List Env) (P : Program) (w : World) (H : Hp) (s : Shared) (Q : VK) (E : XK) (r : Result) (s' : Shared) : Prop :=
  match r with
  | .ok (.ret u) => CE outer P w H s Q u s'
  | .ok _ => False
  | .error e => CX outer H s E e s'
structure FnOk (P : Program) (w : World) (K : PySem.W.Frag) (mg : Str → Option Value) (base : Heap) (CX : CXT) (k : Nat) (f : Addr) (fd : FuncData) (ps : List Str) (sp : Sp) : Prop where
  len : ∀ vs H Q E, sp vs H Q E → vs.length = ps.length
  run : ∀ (A : Around) (outer : List Env) (s : Shared) (H : Hp) (args : Args) (us : List Value) (vs : List V) (Q : VK) (E : XK), Room k A → Env0 P w K mg base A outer s H → BindsTo s fd args (ps.zip us) → Vals vs us → sp vs H Q E →
    codeAny (model P w) A (.call (.ref f) args) (CR CX outer P w H s Q E) s
theorem Env0.make {P : Program} {w : World} {K : PySem.W.Frag} {mg : Str → Option Value} {base : Heap} {A : Around} {outer : List Env} {s : Shared} {H : Hp} (e : Env0 P w K mg base A outer s H) (C : Addr) (us : List Value) (kw : List (Str × Value)) :
    Env0 P w K mg base (A.under (.builtin "type.__call__" ⟨.ref C :: us, kw⟩)) outer s H := ⟨by first | exact e.frames | (simpa [Around.under, Code.envs, Code.isFrame, pushEnvs] using e.frames), e.mod, e.bs, e.bsz, e.funs, e.frf, e.hok, e.bare⟩
theorem Env0.in1 {P : Program} {w : World} {K : PySem.W.Frag} {mg : Str → Option Value} {base : Heap} {A : Around} {outer : List Env} {s : Shared} {H : Hp} (e : Env0 P w K mg base A outer s H) :
    Env0 P w K mg base A.in1 outer s H := ⟨e.frames, e.mod, e.bs, e.bsz, e.funs, e.frf, e.hok, e.bare⟩
section
variable {X : Cx} {pins : List (Addr × Obj)} {σ : St} {H : Hp} {s s' : Shared}
theorem Inv.env0 (I : Inv X pins σ H s) : Env0 X.prog X.w X.K X.mg X.base X.A X.stack s H :=
  ⟨I.ok.frames, I.ok.mod, I.bs, Nat.le_trans I.ok.bsz I.sz, I.stack, I.stkFree, I.hok, I.bare⟩
theorem Inv.after {Q : VK} {u : Value} (I : Inv X pins σ H s) (h : CE X.stack X.prog X.w H s Q u s') : EP X pins σ Q u s' := by
  obtain ⟨v, H', os, bare, un, hok, r, q⟩ := h
  obtain ⟨hh, g, d, t, os'⟩ := s'
  obtain rfl : os' = s.os := os
  exact ⟨v, H', I.call (h' := hh) (g' := g) (d' := d) (t' := t) (ch := []) un hok bare (fun b z => absurd z (by simp)), r, q⟩
end
def tCall (sp : Sp) (dvs : List V) (E : XK) (t : TA) : TE := fun σ H Q => t σ H fun vs H1 => sp (vs ++ dvs) H1 Q E
def tMeth (C : Addr) (m : Str) (sp : Sp) (dvs : List V) (E : XK) (ta : TE) (t : TA) : TE := fun σ H Q => ta σ H fun x H1 => ∃ a dx fs, x = .ref a ∧ H1 a = some (.ins C dx fs) ∧ fs.lookup m = none ∧
  t σ H1 fun vs H2 => sp (x :: (vs ++ dvs)) H2 Q E
def tMake (C : Addr) (sp : Sp) (dvs : List V) (E : XK) (t : TA) : TE := fun σ H Q => t σ H fun vs H1 => ∀ x dx, H1 x = none → H1 dx = none → dx ≠ x →
  sp (.ref x :: (vs ++ dvs)) (upd (upd H1 dx (.own x)) x (.ins C dx [])) (fun v H2 => v = .non ∧ Q (.ref x) H2) E
def Binds (K : PySem.W.Frag) (fd : FuncData) (ps : List Str) (ds : List Value) : Prop :=
  ∀ (s : Shared) (us : List Value), K.In s.heap → (us ++ ds).length = ps.length → BindsTo s fd ⟨us, []⟩ (ps.zip (us ++ ds))
theorem Binds.all {K : PySem.W.Frag} {fd : FuncData} {ps : List Str} (h : ∀ us : List Value, us.length = ps.length → bindArgs fd ⟨us, []⟩ = pure (ps.zip us)) : Binds K fd ps [] := fun s us _ hl => by
  rw [List.append_nil] at hl ⊢
  exact .of_eq (h us hl)
def Passes (CX : CXT) (X : Cx) (E : XK) : Prop := ∀ (pins : List (Addr × Obj)) (σ : St) (H : Hp) (s : Shared) (e : Value) (s' : Shared), Inv X pins σ H s → CX X.stack H s E e s' → X.xe e s'
section
variable {X : Cx} {CX : CXT} {k : Nat} {f C : Addr} {fd : FuncData} {ps : List Str} {sp : Sp} {dvs : List V} {ds : List Value} {E : XK} {x m : Str} {p pos apos : Pos} {e o : Expr} {es : List Expr} {ta : TE} {t : TA}
theorem run_fn {pins : List (Addr × Obj)} {σ : St} {H : Hp} {s : Shared} {Q : VK} {us : List Value} {vs : List V} (F : FnOk X.prog X.w X.K X.mg X.base CX k f fd ps sp) (hr : Room k X.A) (hb : Binds X.K fd ps ds) (hd : Vals dvs ds) (hx : Passes CX X E)
    (I : Inv X pins σ H s) (r : Vals vs us) (h : sp (vs ++ dvs) H Q E) : wpAny (model X.prog X.w) X.A (call (.ref f) us) (EP X pins σ Q) X.xe s := by
  have r2 : Vals (vs ++ dvs) (us ++ ds) := r.append hd
  have hl : (us ++ ds).length = ps.length := by rw [← r2.length]; exact F.len _ _ _ _ h
  refine wpAny_call (codeAny_mono (F.run X.A X.stack s H ⟨us, []⟩ (us ++ ds) (vs ++ dvs) Q E hr I.env0 (hb s us I.kIn hl) r2 h) fun r s' hq => ?_)
  cases r with
  | error e => exact hx pins σ H s e s' I hq
  | ok fl =>
    cases fl with
    | ret u => exact I.after hq
    | next => exact False.elim hq
    | brk => exact False.elim hq
    | cont => exact False.elim hq
theorem pe_call (F : FnOk X.prog X.w X.K X.mg X.base CX k f fd ps sp) (hr : Room k X.A) (hg : Gl X x) (hm : X.mg x = some (.ref f)) (hk : PySem.W.keepIn X.K (.ref f) = true) (hb : Binds X.K fd ps ds) (hd : Vals dvs ds) (hx : Passes CX X E)
    (ha : PA X (e :: es) t) (hdb : (x == ("__debug__" : Str)) = false := by decide) (he : starEach (e :: es) X.env = (false, eval e X.env) :: starEach es X.env := by rfl) (hpl : (backTo pos (starEach es X.env)).any (·.1) = false := by rfl) :
    PE X (.Call (.Name x p) (e :: es) [] pos) (tCall sp dvs E t) := by
  intro pins s σ H Q I h
  refine wpAny_Call_Name_kw (ld_glob I hg hm ?_ hdb)
  refine PySem.W.callWith_K (h₀ := X.base) I.ok.mod.kin hk (thn (ha pos pins s σ H _ I h) fun us s1 ⟨vs, H1, I1, r, q⟩ => ⟨I1.kIn, ?_⟩) he hpl
  exact run_fn F hr hb hd hx I1 r q
theorem pe_call0 (F : FnOk X.prog X.w X.K X.mg X.base CX k f fd ps sp) (hr : Room k X.A) (hg : Gl X x) (hm : X.mg x = some (.ref f)) (hk : PySem.W.keepIn X.K (.ref f) = true) (hb : Binds X.K fd ps ds) (hd : Vals dvs ds) (hx : Passes CX X E)
    (hdb : (x == ("__debug__" : Str)) = false := by decide) : PE X (.Call (.Name x p) [] [] pos) (tCall sp dvs E tNil) := by
  intro pins s σ H Q I h
  refine wpAny_Call_Name_kw (ld_glob I hg hm ?_ hdb)
  exact PySem.W.callWith_K0 I.kIn hk (run_fn (us := []) F hr hb hd hx I .nil h)
theorem pe_meth {pl : Sem Bool} (he : PE X o ta) (c : Cls X.K C) (hm : Meth X.K C m f) (F : FnOk X.prog X.w X.K X.mg X.base CX k f fd ps sp) (hr : Room k X.A) (hb : Binds X.K fd ps ds) (hd : Vals dvs ds) (hx : Passes CX X E) (ha : PA X (e :: es) t)
    (hst : starEach (e :: es) X.env = (false, eval e X.env) :: starEach es X.env := by rfl) (hpl : (backTo pos (starEach es X.env)).any (·.1) = false := by rfl)
    (ht : eval (.Call (.Attribute o m apos) (e :: es) [] pos) X.env = (do
      let ov ← eval o X.env
      standAt apos.atName
      let (f, first) ← holding [ov] (getMethod ov m pl)
      callWith pos f first (backTo pos (starEach (e :: es) X.env)) (backToKw pos (keywordEach [] X.env))) := by rfl) :
    PE X (.Call (.Attribute o m apos) (e :: es) [] pos) (tMeth C m sp dvs E ta t) := by
  intro pins s σ H Q I h
  refine PySem.W.methodCall_KW (pl := pl) (thn (he pins s σ H _ I h) fun u s1 ⟨x, H1, I1, rx, a, dx, fs, ex, ea, l, q⟩ => ?_) ht
  subst ex
  obtain rfl : u = Value.ref a := rx
  refine getmeth_ok I1 ea c hm l ?_
  refine PySem.W.callWith_K (first := [.ref a]) (h₀ := X.base) I.ok.mod.kin hm.kp (thn (ha pos pins s1 σ H1 _ I1 q) fun us s2 ⟨vs, H2, I2, r, q2⟩ => ⟨I2.kIn, ?_⟩) hst hpl
  exact run_fn (us := .ref a :: us) (vs := .ref a :: vs) F hr hb hd hx I2 (.cons rfl r) q2
theorem pe_meth0 {pl : Sem Bool} (he : PE X o ta) (c : Cls X.K C) (hm : Meth X.K C m f) (F : FnOk X.prog X.w X.K X.mg X.base CX k f fd ps sp) (hr : Room k X.A) (hb : Binds X.K fd ps ds) (hd : Vals dvs ds) (hx : Passes CX X E)
    (ht : eval (.Call (.Attribute o m apos) [] [] pos) X.env = (do
      let ov ← eval o X.env
      standAt apos.atName
      let (f, first) ← holding [ov] (getMethod ov m pl)
      callWith pos f first (backTo pos (starEach [] X.env)) (backToKw pos (keywordEach [] X.env))) := by rfl) :
    PE X (.Call (.Attribute o m apos) [] [] pos) (tMeth C m sp dvs E ta tNil) := by
  intro pins s σ H Q I h
  refine PySem.W.methodCall_KW (pl := pl) (thn (he pins s σ H _ I h) fun u s1 ⟨x, H1, I1, rx, a, dx, fs, ex, ea, l, q⟩ => ?_) ht
  subst ex
  obtain rfl : u = Value.ref a := rx
  refine getmeth_ok I1 ea c hm l ?_
  exact PySem.W.callWith_K0 (first := [.ref a]) I1.kIn hm.kp (run_fn (us := [.ref a]) (vs := [.ref a]) F hr hb hd hx I1 (.cons rfl .nil) q)
structure Mk (K : PySem.W.Frag) (C f : Addr) : Prop where
  makes : PySem.W.makesIn K C = true
  init : PySem.W.findIn K (.ref C) "__init__" = some (some (.ref f))
  fn : PySem.W.isFn K (.ref f) = true
  kp : PySem.W.keepIn K (.ref C) = true
theorem run_make {pins : List (Addr × Obj)} {σ : St} {H : Hp} {s : Shared} {Q : VK} {us : List Value} {vs : List V} (M : Mk X.K C f) (F : FnOk X.prog X.w X.K X.mg X.base CX k f fd ps sp) (hr : Room (k + 1) X.A) (hb : Binds X.K fd ps ds) (hd : Vals dvs ds)
    (hx : Passes CX X E) (I : Inv X pins σ H s) (r : Vals vs us)
    (h : ∀ x dx, H x = none → H dx = none → dx ≠ x → sp (.ref x :: (vs ++ dvs)) (upd (upd H dx (.own x)) x (.ins C dx [])) (fun v H2 => v = .non ∧ Q (.ref x) H2) E) :
    wpAny (model X.prog X.w) X.A (call (.ref C) us) (EP X pins σ Q) X.xe s := by
  have hq := h (s.heap.objs.size + 1) s.heap.objs.size (I.hok.fresh (Nat.le_succ _)) (I.hok.fresh (Nat.le_refl _)) (Nat.ne_of_lt (Nat.lt_succ_self _))
  have I2 := Inv.made (C := C) I
  have r2 : Vals (V.ref (s.heap.objs.size + 1) :: (vs ++ dvs)) (Value.ref (s.heap.objs.size + 1) :: (us ++ ds)) := .cons rfl (r.append hd)
  have hl : (Value.ref (s.heap.objs.size + 1) :: us ++ ds).length = ps.length := by
    have e := r2.length
    rw [F.len _ _ _ _ hq] at e
    exact e.symm
  refine wpAny_call (make_map (f := f) I.kIn M.makes M.init (beq_iff_eq.mp M.fn) (codeAny_mono (F.run _ X.stack _ _ ⟨Value.ref (s.heap.objs.size + 1) :: us, []⟩ (Value.ref (s.heap.objs.size + 1) :: (us ++ ds)) _ _ E (hr.make C us [])
    (I2.env0.make C us []) (hb _ (Value.ref (s.heap.objs.size + 1) :: us) I2.kIn hl) r2 hq) fun r s' hq' => ?_))
  cases r with
  | error e => exact hx pins σ _ _ e s' I2 hq'
  | ok fl =>
    cases fl with
    | ret u =>
      obtain ⟨v, H', I3, rv, ev, q3⟩ := I2.after hq'
      subst ev
      exact ⟨rv, ⟨V.ref (s.heap.objs.size + 1), H', I3, rfl, q3⟩⟩
    | next => exact False.elim hq'
    | brk => exact False.elim hq'
    | cont => exact False.elim hq'
theorem pe_make (M : Mk X.K C f) (F : FnOk X.prog X.w X.K X.mg X.base CX k f fd ps sp) (hr : Room (k + 1) X.A) (hg : Gl X x) (hm : X.mg x = some (.ref C)) (hb : Binds X.K fd ps ds) (hd : Vals dvs ds) (hx : Passes CX X E)
    (ha : PA X (e :: es) t) (hdb : (x == ("__debug__" : Str)) = false := by decide) (he : starEach (e :: es) X.env = (false, eval e X.env) :: starEach es X.env := by rfl) (hpl : (backTo pos (starEach es X.env)).any (·.1) = false := by rfl) :
    PE X (.Call (.Name x p) (e :: es) [] pos) (tMake C sp dvs E t) := by
  intro pins s σ H Q I h
  refine wpAny_Call_Name_kw (ld_glob I hg hm ?_ hdb)
  refine PySem.W.callWith_K (h₀ := X.base) I.ok.mod.kin M.kp (thn (ha pos pins s σ H _ I h) fun us s1 ⟨vs, H1, I1, r, q⟩ => ⟨I1.kIn, ?_⟩) he hpl
  exact run_make M F hr hb hd hx I1 r q
theorem pe_make0 (M : Mk X.K C f) (F : FnOk X.prog X.w X.K X.mg X.base CX k f fd ps sp) (hr : Room (k + 1) X.A) (hg : Gl X x) (hm : X.mg x = some (.ref C)) (hb : Binds X.K fd ps ds) (hd : Vals dvs ds) (hx : Passes CX X E)
    (hdb : (x == ("__debug__" : Str)) = false := by decide) : PE X (.Call (.Name x p) [] [] pos) (tMake C sp dvs E tNil) := by
  intro pins s σ H Q I h
  refine wpAny_Call_Name_kw (ld_glob I hg hm ?_ hdb)
  exact PySem.W.callWith_K0 I.kIn M.kp (run_make (us := []) M F hr hb hd hx I .nil h)
end
section
variable {X : Cx} {CX : CXT} {k : Nat} {f C : Addr} {fd : FuncData} {ps ks : List Str} {sp : Sp} {E : XK} {x m : Str} {p pos apos kpos : Pos} {e o : Expr} {es : List Expr} {kws : List Keyword} {te ta : TE} {t tk : TA} {nm : Option Str}
variable {g : List Value → List Value → List Value} {gV : List V → List V → List V}
end
structure FnScope (N P : List Str) (sc : Scope) : Prop where
  kind : sc.kind = .function
  co : sc.isCoroutine = false
  gen : sc.isGenerator = false
  nd : N.Nodup
  pre : N.take P.length = P
  par : ∀ x ∈ P, sc.names.lookup x = some .local ∨ sc.names.lookup x = some .cell
  nofree : ∀ y ∈ sc.names, y.2 ≠ .free
theorem bindL_out {kindOf : Str → Option NameKind} {x : Str} : ∀ {binds : List (Str × Value)} {m : Str → Option Value}, (∀ v, (x, v) ∉ binds) → bindL kindOf binds m x = m x
  | [], _, _ => rfl
  | (n, v) :: r, m, h => by
    unfold bindL
    rw [bindL_out fun w hw => h w (List.mem_cons_of_mem _ hw)]
    split
    · have : x ≠ n := by rintro rfl; exact h v List.mem_cons_self
      simp [this]
    · rfl
theorem bindC_out {kindOf : Str → Option NameKind} {x : Str} : ∀ {binds : List (Str × Value)} {m : Str → Option Value}, (∀ v, (x, v) ∉ binds) → bindC kindOf binds m x = m x
  | [], _, _ => rfl
  | (n, v) :: r, m, h => by
    unfold bindC
    rw [bindC_out fun w hw => h w (List.mem_cons_of_mem _ hw)]
    split
    · rfl
    · have : x ≠ n := by rintro rfl; exact h v List.mem_cons_self
      simp [this]
theorem bindL_get {kindOf : Str → Option NameKind} {x : Str} {v : Value} : ∀ {P : List Str} {vs : List Value} {i : Nat} {m : Str → Option Value}, P.Nodup → P[i]? = some x → vs[i]? = some v → kindOf x = some .local →
    bindL kindOf (P.zip vs) m x = some v
  | [], _, _, _, _, h, _, _ => by simp at h
  | _ :: _, [], _, _, _, _, h, _ => by simp at h
  | p :: P, w :: vs, 0, m, nd, h1, h2, hk => by
    simp at h1 h2; subst h1; subst h2
    show bindL kindOf ((p, w) :: P.zip vs) m p = _
    unfold bindL
    rw [bindL_out fun v hv => (List.nodup_cons.mp nd).1 (List.of_mem_zip hv).1, if_pos hk]
    simp
  | p :: P, w :: vs, i + 1, m, nd, h1, h2, hk => by
    show bindL kindOf ((p, w) :: P.zip vs) m x = _
    unfold bindL
    exact bindL_get (i := i) (List.nodup_cons.mp nd).2 (by simpa using h1) (by simpa using h2) hk
theorem bindC_get {kindOf : Str → Option NameKind} {x : Str} {v : Value} : ∀ {P : List Str} {vs : List Value} {i : Nat} {m : Str → Option Value}, P.Nodup → P[i]? = some x → vs[i]? = some v → kindOf x ≠ some .local →
    bindC kindOf (P.zip vs) m x = some v
  | [], _, _, _, _, h, _, _ => by simp at h
  | _ :: _, [], _, _, _, _, h, _ => by simp at h
  | p :: P, w :: vs, 0, m, nd, h1, h2, hk => by
    simp at h1 h2; subst h1; subst h2
    show bindC kindOf ((p, w) :: P.zip vs) m p = _
    unfold bindC
    rw [bindC_out fun v hv => (List.nodup_cons.mp nd).1 (List.of_mem_zip hv).1, if_neg hk]
    simp
  | p :: P, w :: vs, i + 1, m, nd, h1, h2, hk => by
    show bindC kindOf ((p, w) :: P.zip vs) m x = _
    unfold bindC
    exact bindC_get (i := i) (List.nodup_cons.mp nd).2 (by simpa using h1) (by simpa using h2) hk
def start (N : List Str) (vs : List V) : St := vs.map some ++ List.replicate (N.length - vs.length) none
def cxOf (CX : CXT) (P : Program) (w : World) (K : PySem.W.Frag) (mg : Str → Option Value) (base : Heap) (N : List Str) (qual : Str) (scope : Scope) (f : Addr) (cd : Value) (A : Around) (outer : List Env) (s : Shared) (H : Hp) (E : XK) : Cx where
  prog := P
  w := w
  K := K
  mg := mg
  base := base
  A := A.deeper (envOfC qual scope s.heap.objs.size f cd)
  N := N
  s_0 := s
  H_0 := H
  env := envOfC qual scope s.heap.objs.size f cd
  outer := outer
  stack := envOfC qual scope s.heap.objs.size f cd :: outer
  ex := []
  calm := true
  fn := fun _ => true
  pn := []
  xe := fun e s' => wpAny (model P w) (A.deeper (envOfC qual scope s.heap.objs.size f cd)) (leaving (envOfC qual scope s.heap.objs.size f cd) e) (fun _ s'' => CX outer H s E e s'') (fun e' s'' => CX outer H s E e' s'') s'
theorem cell_has {sc : Scope} {n : Nat} {x : Str} (h : sc.names.lookup x = some .cell) : ∃ c, (cellsFrom n sc.names []).lookup x = some c := by
  have q := PySem.W.cellsFrom_some sc.names n [] (.inl h)
  exact Option.isSome_iff_exists.mp q
theorem inv_start {CX : CXT} {P : Program} {w : World} {K : PySem.W.Frag} {mg : Str → Option Value} {base : Heap} {N ps : List Str} {qual : Str} {scope : Scope} {f : Addr} {cd : Value} {A : Around} {outer : List Env} {s s1 : Shared} {H : Hp} {E : XK} {us : List Value} {vs : List V}
    (S : FnScope N ps scope) (hd : A.handled = none) (e0 : Env0 P w K mg base A outer s H) (hl : vs.length = ps.length) (r : Vals vs us)
    (x : InCallC s s.heap.objs.size (bindL (envOfC qual scope s.heap.objs.size f cd).kindOf (ps.zip us) fun _ => none) (cellsFrom (s.heap.objs.size + 1) scope.names []) (bindC (envOfC qual scope s.heap.objs.size f cd).kindOf (ps.zip us) fun _ => none) s1) :
    Inv (cxOf CX P w K mg base N qual scope f cd A outer s H E) [] (start N vs) H s1 := by
  have hpl : ps.length ≤ N.length := by have := congrArg List.length S.pre; rw [List.length_take] at this; omega
  obtain ⟨h1, tk, rfl, hk⟩ := x.done
  have noA : ∀ b : Addr, b ∉ (cxOf CX P w K mg base N qual scope f cd A outer s H E).ex := fun b z => absurd (show b ∈ ([] : List Addr) from z) (by simp)
  refine ⟨⟨e0.mod, S.kind, rfl, rfl, Nat.le_refl _, fun y z c h1 h2 => ?_, fun y hy => ?_, fun y c _ h => ?_, fun _ => hd, Around.frames_deeper e0.frames, .inr ⟨rfl, rfl⟩, fun b z => absurd z (noA b), e0.bs, e0.bsz, fun b _ _ => noA b, fun b z => absurd z (noA b), e0.funs, e0.frf⟩,
    rfl, e0.bare, Un.kept hk, ⟨_, x.toInCall.ns, fun i y v h1 h2 h3 => ?_⟩, fun y c h => ⟨_, x.cell y c h⟩, e0.hok.fresh (Nat.le_refl _), fun y c h => ?_, fun p hp => absurd (show p ∈ ([] : List (Addr × Obj)) from hp) (by simp), e0.hok.kept hk, ?_⟩
  · exact name_of_addr x.apart (PySem.mem_of_lookup h1) (PySem.mem_of_lookup h2)
  · have hy : scope.names.lookup y = some .cell ∨ scope.names.lookup y = some .free := hy
    rcases hy with hy | hy
    · exact cell_has hy
    · exact absurd rfl (S.nofree _ (PySem.mem_of_lookup hy))
  · exact Nat.le_of_lt (x.above y c (PySem.mem_of_lookup h))
  · have hi : i < vs.length := by
      unfold start at h2
      by_cases hi : i < vs.length
      · exact hi
      · rw [List.getElem?_append_right (by simpa using hi)] at h2
        rw [List.getElem?_replicate] at h2
        split at h2 <;> cases h2
    have ha : vs[i]? = some v := by
      unfold start at h2
      rw [List.getElem?_append_left (by simpa using hi), List.getElem?_map] at h2
      cases e : vs[i]? with
      | none => rw [e] at h2; cases h2
      | some a => rw [e] at h2; cases h2; rfl
    obtain ⟨u, hu, rv⟩ := r.get ha
    have hp : ps[i]? = some y := by
      rw [← S.pre, List.getElem?_take_of_lt (by omega)]; exact h1
    have ndP : ps.Nodup := by rw [← S.pre]; exact S.nd.sublist (List.take_sublist _ _)
    refine ⟨u, rv, ?_⟩
    rcases S.par y (List.mem_of_getElem? hp) with k | k
    · exact .inl ⟨k, bindL_get ndP hp hu k⟩
    · obtain ⟨c, e⟩ := cell_has (n := s.heap.objs.size + 1) k
      refine .inr ⟨.inl k, c, e, ?_⟩
      have q := x.cell y c e
      rw [bindC_get ndP hp hu (by show scope.names.lookup y ≠ _; rw [k]; decide)] at q
      exact q
  · exact e0.hok.fresh (Nat.le_of_lt (x.above y c (PySem.mem_of_lookup h)))
  · unfold start
    show _ = N.length
    rw [List.length_append, List.length_map, List.length_replicate]
    omega
theorem fn_of {CX : CXT} {P : Program} {w : World} {K : PySem.W.Frag} {mg : Str → Option Value} {base : Heap} {k : Nat} {f : Addr} {name qual : Str} {params : Arguments} {body : List Stmt} {scope : Scope} {dV kV doc pm cdv ct oc : Value} {an od : Option Addr}
    {osl : Array (Option Value)} {N ps : List Str} {sp : Sp} (lk : K.lookup f = some ⟨oc, od, .func (PySem.W.fnOf name qual params body scope dV kV doc pm an cdv ct), osl⟩) (hcd : PySem.W.codeIn K cdv qual = true) (S : FnScope N ps scope)
    (len : ∀ vs H Q E, sp vs H Q E → vs.length = ps.length)
    (hbody : ∀ (A : Around) (outer : List Env) (s : Shared) (H : Hp) (vs : List V) (Q : VK) (E : XK), Room k (A.deeper (envOfC qual scope s.heap.objs.size f cdv)) → sp vs H Q E →
      ∃ t, PSs (cxOf CX P w K mg base N qual scope f cdv A outer s H E) body t ∧ t { nx := fun _ H' => Q .non H', rt := Q } (start N vs) H) :
    FnOk P w K mg base CX (k + 1) f (PySem.W.fnOf name qual params body scope dV kV doc pm an cdv ct) ps sp := by
  refine ⟨len, fun A outer s H args us vs Q E hr e0 hb r hsp => ?_⟩
  have hl := len _ _ _ _ hsp
  have KX : K.In s.heap := e0.mod.kin.keeps fun b o e => (e0.bs b o e).1
  have lim : s.heap.NoLimit := e0.mod.nolimit.keeps fun b o e => (e0.bs b o e).1
  have hkind : ∀ y ∈ ps.zip us, scope.names.lookup y.1 = some .local ∨ (scope.names.lookup y.1 = some .cell ∧ ((cellsFrom (s.heap.objs.size + 1) scope.names []).lookup y.1).isSome = true) := fun ⟨n, v⟩ hy => by
    rcases S.par n (List.of_mem_zip hy).1 with q | q
    · exact .inl q
    · exact .inr ⟨q, PySem.W.cellsFrom_some _ _ _ (.inl q)⟩
  refine codeAny_call_function hr.depth (KX _ _ lk) rfl S.co S.gen rfl (PySem.W.codeRec_of KX hcd) (hb _ _ _ _ ?_)
  refine wpAny_newFunctionEnv_cells S.kind hkind fun env he s1 x => ?_
  subst he
  refine ⟨lim.keeps x.toInCall.keep, codeAny_func ?_⟩
  obtain ⟨t, ht, hq⟩ := hbody A outer s H vs Q E (hr.deeper _) hsp
  have I : Inv (cxOf CX P w K mg base N qual scope f cdv A outer s H E) [] (start N vs) H s1 := inv_start S hr.hd e0 hl r x
  refine wpAny_mono (ht [] s1 (start N vs) H _ I hq) (fun fl s' hs => ?_) fun e s' hs => hs
  have fin : ∀ {σ' : St} {H' : Hp} {v : V} {u : Value}, Inv (cxOf CX P w K mg base N qual scope f cdv A outer s H E) [] σ' H' s' → RelV v u → Q v H' → CE outer P w H s Q u s' :=
    fun {σ' H' v u} J rv q => ⟨v, H', J.os, J.bare, J.base, J.hok, rv, q⟩
  cases fl with
  | ret u =>
    obtain ⟨v, σ', H', J, rv, q⟩ := hs
    exact fin J rv q
  | next =>
    obtain ⟨σ', H', J, q⟩ := hs
    exact fin (v := V.non) (u := Value.none) J rfl q
  | brk =>
    obtain ⟨_, _, _, q⟩ := hs
    exact False.elim q
  | cont =>
    obtain ⟨_, _, _, q⟩ := hs
    exact False.elim q
end L2
namespace L2
open PySem PySem.Spec PyProof.Rows
section
variable {X : Cx} {x : Str} {p pos : Pos} {e : Expr} {es : List Expr} {t : TA} {id T : String} {r : List V → Hp → VK → Prop}
def tCB (r : List V → Hp → VK → Prop) (t : TA) : TE := fun σ H Q => t σ H fun vs H1 => r vs H1 Q
theorem pe_callB (hc : CallR X (.builtin id) r) (hg : Gl X x) (hm : X.mg x = none) (hv : bootBuiltins x = some (.builtin id)) (ha : PA X (e :: es) t) (hn : x ≠ "__name__" := by decide) (hdb : (x == ("__debug__" : Str)) = false := by decide)
    (he : starEach (e :: es) X.env = (false, eval e X.env) :: starEach es X.env := by rfl) (hpl : (backTo pos (starEach es X.env)).any (·.1) = false := by rfl) : PE X (.Call (.Name x p) (e :: es) [] pos) (tCB r t) := by
  intro pins s σ H Q I h
  refine wpAny_Call_Name_kw (ld_blt I hg hm hv ?_ hn hdb)
  exact PyProof.Rows.callWith_builtin1 (thn (ha pos pins s σ H _ I h) fun us s1 ⟨vs, H1, I1, r1, q1⟩ => hc pins s1 σ H1 vs us Q I1 r1 q1) he hpl
theorem pe_callTy (hc : CallR X (.type T) r) (hg : Gl X x) (hm : X.mg x = none) (hv : bootBuiltins x = some (.type T)) (ha : PA X (e :: es) t) (hn : x ≠ "__name__" := by decide) (hdb : (x == ("__debug__" : Str)) = false := by decide)
    (he : starEach (e :: es) X.env = (false, eval e X.env) :: starEach es X.env := by rfl) (hpl : (backTo pos (starEach es X.env)).any (·.1) = false := by rfl) : PE X (.Call (.Name x p) (e :: es) [] pos) (tCB r t) := by
  intro pins s σ H Q I h
  refine wpAny_Call_Name_kw (ld_blt I hg hm hv ?_ hn hdb)
  exact PyProof.Rows.callWith_type1 (thn (ha pos pins s σ H _ I h) fun us s1 ⟨vs, H1, I1, r1, q1⟩ => hc pins s1 σ H1 vs us Q I1 r1 q1) he hpl
end
end L2
namespace HT
open PySem PyProof.Rows
def lexLt : List Int → List Int → Bool
  | [], [] => false
  | [], _ :: _ => true
  | _ :: _, [] => false
  | x :: xs, y :: ys => if x = y then lexLt xs ys else decide (x < y)
theorem lexLt_cons (x y : Int) (xs ys : List Int) : lexLt (x :: xs) (y :: ys) = if x = y then lexLt xs ys else decide (x < y) := rfl
theorem lexLt_nil_nil : lexLt [] [] = false := rfl
theorem lexLt_nil_cons (y : Int) (ys : List Int) : lexLt [] (y :: ys) = true := rfl
theorem lexLt_cons_nil (x : Int) (xs : List Int) : lexLt (x :: xs) [] = false := rfl
theorem eqAt_int (A : Around) (s : Shared) (a : Int) (t : Tok) (c : Int) (u : Tok) : ∃ e, SeqAt.EqAt A s (.int a t) (.int c u) e ∧ (e = true ↔ a = c) :=
  ⟨(a == c), SeqAt.EqAt.int_int a t c u, by simp⟩
theorem rcLt_int (A : Around) (s : Shared) (a : Int) (t : Tok) (c : Int) (u : Tok) (prog : Program) (w : World) (E : Value → Shared → Prop) (Q : Value → Shared → Prop) (h : Q (.bool (decide (a < c))) s) :
    wpAny (model prog w) A (richCompare .Lt (.int a t) (.int c u)) Q E s :=
  (PyProof.Rows.lt_int h : wpAny (model prog w) A (compareOp .Lt (.int a t) (.int c u)) Q E s)
section
open PySem.SeqAt
open PySem.AutoSeq1 (wpAny_loadPart')
open PySem.MeetsSeq PySem.MeetsSeq2 PySem.MeetsSeq3
theorem tuple_lt_ints (l b : Addr) (items items2 : Array Value) (n n2 : Nat) (dd dd2 : Option Addr) (sl sl2 : Array (Option Value)) (ns ms : List Int) (hi : IntsAre items.toList ns) (hj : IntsAre items2.toList ms) :
    Meets (Builtin.«tuple.__lt__» ⟨[.ref l, .ref b], []⟩)
      (fun _ R s => s.heap.get? l = some { cls := .type "tuple", dict := dd, data := .seq items n, slots := sl } ∧ s.heap.get? b = some { cls := .type "tuple", dict := dd2, data := .seq items2 n2, slots := sl2 } ∧
        R (.ok (.ret (.bool (lexLt ns ms)))) s) :=
  .of_wp fun prog w A R s h => by
    obtain ⟨hp, g, d, tk, os⟩ := s; obtain ⟨hl, hb, h⟩ := h
    have f2 := AutoSeq1.sub_tuple_tuple
    have z1 : items.size = ns.length := by rw [← hi.length]; simp
    have z2 : items2.size = ms.length := by rw [← hj.length]; simp
    wp_walk using wpAny_loadPart' hl, wpAny_loadPart' hb, wpAny_forIn_list _ (fun rest b s' => b.1 = none ∧ s' = ⟨hp, g, d, tk, os⟩ ∧ ∃ (vs ws : List Value) (ns' ms' : List Int), rest = vs.zip ws ∧
      IntsAre vs ns' ∧ IntsAre ws ms' ∧ ns'.length + items2.size = ms'.length + items.size ∧ R (.ok (.ret (.bool (lexLt ns' ms')))) ⟨hp, g, d, tk, os⟩) _
    case turn =>
      rintro ⟨y, x⟩ rest b s' ⟨hb', rfl, vs, ws, ns', ms', hz, hvi, hwi, hlen, hR⟩
      cases hvi with
      | nil => rw [List.zip_nil_left] at hz; cases hz
      | cons a t hvi' =>
        cases hwi with
        | nil => rw [List.zip_nil_right] at hz; cases hz
        | cons c u hwi' =>
          rw [List.zip_cons_cons] at hz
          injection hz with hyx hrest
          injection hyx with hy hx
          subst hy hx
          rw [lexLt_cons] at hR
          simp only [List.length_cons] at hlen
          obtain ⟨e, he, hiff⟩ := eqAt_int A.in1 ⟨hp, g, d, tk, os⟩ a t c u
          refine wpAny_bind (he prog w _ _ ?_)
          cases e with
          | true =>
            rw [if_pos (hiff.mp rfl)] at hR
            wp_walk
            exact ⟨rfl, rfl, _, _, _, _, hrest, hvi', hwi', by omega, hR⟩
          | false =>
            rw [if_neg (fun q => absurd (hiff.mpr q) Bool.false_ne_true)] at hR
            have hri := rcLt_int A.in1 ⟨hp, g, d, tk, os⟩ a t c u prog w
            wp_walk using hri
            exact ⟨_, rfl, by simpa using hR⟩
    case fin =>
      rintro ⟨b1, b2⟩ s' ⟨hb', rfl, vs, ws, ns', ms', hz, hvi, hwi, hlen, hR⟩
      simp only at hb'
      subst hb'
      have hv : lexLt ns' ms' = decide (items.size < items2.size) := by
        cases hvi with
        | nil =>
          cases hwi with
          | nil =>
            simp only [List.length_nil] at hlen
            rw [lexLt_nil_nil]
            exact (decide_eq_false (by omega)).symm
          | cons c u hw =>
            simp only [List.length_nil, List.length_cons] at hlen
            rw [lexLt_nil_cons]
            exact (decide_eq_true (by omega)).symm
        | cons a t hv =>
          cases hwi with
          | nil =>
            simp only [List.length_nil, List.length_cons] at hlen
            rw [lexLt_cons_nil]
            exact (decide_eq_false (by omega)).symm
          | cons c u hw =>
            rw [List.zip_cons_cons] at hz
            cases hz
      rw [hv] at hR
      wp_walk
      exact ⟨_, rfl, by simpa [Builtin.Tuple.tupleCompareSizes] using hR⟩
    case h =>
      exact ⟨rfl, rfl, items.toList, items2.toList, ns, ms, rfl, hi, hj, by omega, h⟩
end
section
variable {prog : Program} {w : World} {A : Around} {E : Value → Shared → Prop} {s : Shared}
theorem lt_tupInts {l b : Addr} {items items2 : Array Value} {ns ms : List Int} {Q : Value → Shared → Prop} (hl : IsTup s.heap l items) (hb : IsTup s.heap b items2) (hi : IntsAre items.toList ns) (hj : IntsAre items2.toList ms)
    (hu : A.units < cLine) (h : Q (.bool (lexLt ns ms)) s) : wpAny (model prog w) A (compareOp .Lt (.ref l) (.ref b)) Q E s := by
  obtain ⟨⟨cls, dd, data, sl⟩, ho, hc, n, hd⟩ := id hl
  obtain ⟨⟨cls2, dd2, data2, sl2⟩, ho2, hc2, n2, hd2⟩ := id hb
  simp only at hc hd hc2 hd2
  subst hc hd hc2 hd2
  exact richCompare_meets_room (op := .Lt) ⟨_, ho, rfl⟩ ⟨_, ho2, rfl⟩ PySem.F.slot_tuple_lt PySem.F.entry_tuple_lt (PySem.F.args_tuple_lt_2 _ _) (tuple_lt_ints l b items items2 n n2 dd dd2 sl sl2 ns ms hi hj)
    ⟨ho, ho2, show Value.bool (lexLt ns ms) ≠ Value.notImplemented ∧ Q (.bool (lexLt ns ms)) s from ⟨(fun x => nomatch x), h⟩⟩ hu
def sIx (n d : Nat) : Option Int → Nat
  | none => d
  | some v => if v < 0 then (v + (n : Int)).toNat else min v.toNat n
theorem sIx_none (n d : Nat) : sIx n d none = d := rfl
theorem sIx_nat (n d k : Nat) : sIx n d (some (k : Int)) = min k n := by
  show (if (k : Int) < 0 then ((k : Int) + (n : Int)).toNat else min (k : Int).toNat n) = min k n
  rw [if_neg (by omega), Int.toNat_natCast]
end
end HT
namespace L2
open PySem PySem.Spec PyProof.Rows
abbrev TO := St → Hp → (Option Int → Hp → Prop) → Prop
def PO (X : Cx) (e : Option Expr) (t : TO) : Prop :=
  ∀ (pins : List (Addr × Obj)) (s : Shared) (σ : St) (H : Hp) (Q : Option Int → Hp → Prop), Inv X pins σ H s → t σ H Q →
    wpAny (model X.prog X.w) X.A (evalPart e X.env) (fun u s' => ∃ o H', Inv X pins σ H' s' ∧ IsPart u o ∧ Q o H') X.xe s
def tNoPart : TO := fun _ H Q => Q none H
def tPart (t : TE) : TO := fun σ H Q => t σ H fun x H1 => ∃ i, x = .int i ∧ Q (some i) H1
theorem intsAre_of {ns : List Int} : ∀ {us : List Value}, Vals (ns.map V.int) us → IntsAre us ns := by
  induction ns with
  | nil => intro us r; rw [List.map_nil] at r; cases r; exact .nil
  | cons n ns ih =>
    intro us r
    rw [List.map_cons] at r
    cases r with
    | cons r1 r2 =>
      obtain ⟨t, e⟩ := r1
      subst e
      exact .cons n t (ih r2)
section
variable {X : Cx} {e : Expr} {te : TE} {lo hi : Option Expr} {tl th : TO} {pos p2 : Pos}
theorem po_none : PO X none tNoPart := by
  intro pins s σ H Q I h
  rw [evalPart_none]
  exact wpAny_pure ⟨none, H, I, .none, h⟩
theorem po_some (h : PE X e te) : PO X (some e) (tPart te) := by
  intro pins s σ H Q I hw
  rw [evalPart_some]
  refine thn (h pins s σ H _ I hw) fun u s1 ⟨x, H1, I1, r1, q1⟩ => ?_
  obtain ⟨i, rfl, q⟩ := q1
  obtain ⟨t, rfl⟩ := r1
  exact ⟨some i, H1, I1, .int i t, q⟩
def SlR (X : Cx) (r : V → Option Int → Option Int → Hp → VK → Prop) : Prop :=
  ∀ (pins : List (Addr × Obj)) (s : Shared) (σ : St) (H : Hp) (x : V) (v vl vu : Value) (lo hi : Option Int) (sl : Addr) (Q : VK), Inv X pins σ H s → RelV x v → s.heap.IsSliceOf sl vl vu .none → IsPart vl lo → IsPart vu hi → r x lo hi H Q →
    ∃ T id, typeLookup (.type T) "__getitem__" = pure (some (.builtin id)) ∧ s.TypeIs v T ∧ wpAny (model X.prog X.w) X.A (getItem v (.ref sl)) (EP X pins σ Q) X.xe s
def tSl (r : V → Option Int → Option Int → Hp → VK → Prop) (te : TE) (tl th : TO) : TE := fun σ H Q => te σ H fun x H1 => tl σ H1 fun l H2 => th σ H2 fun u H3 => r x l u H3 Q
theorem pe_slice {r : V → Option Int → Option Int → Hp → VK → Prop} (hr : SlR X r) (he : PE X e te) (hl : PO X lo tl) (hu : PO X hi th) : PE X (.Subscript e (.Slice lo hi none p2) pos) (tSl r te tl th) := by
  intro pins s σ H Q I h
  refine Subscript_ (thn (he pins s σ H _ I h) fun v s1 ⟨x, H1, I1, r1, q1⟩ => ?_)
  refine wpAny_Slice (thn (hl pins s1 σ H1 _ I1 q1) fun vl s2 ⟨l, H2, I2, pl, q2⟩ => thn (hu pins s2 σ H2 _ I2 q2) fun vu s3 ⟨u, H3, I3, pu, q3⟩ => ?_)
  rw [evalPart_none]
  refine wpAny_pure ?_
  have I4 : Inv X pins σ H3 { s3 with heap := s3.heap.push { cls := .type "slice", data := .fields #[vl, vu, .none] } } := I3.kept (t' := s3.toks) fun b ob q => Heap.get?_push_of_some _ q
  obtain ⟨T, id, hT, ht, hg⟩ := hr pins { s3 with heap := s3.heap.push { cls := .type "slice", data := .fields #[vl, vu, .none] } } σ H3 x v vl vu l u s3.heap.objs.size Q I4 r1 (Heap.IsSliceOf.new ..) pl pu q3
  show wpAny (model X.prog X.w) X.A (subscriptTail e (.Slice lo hi none p2) v (.ref s3.heap.objs.size)) (EP X pins σ Q) X.xe { s3 with heap := s3.heap.push { cls := .type "slice", data := .fields #[vl, vu, .none] } }
  exact tail_any (ops := [.ref s3.heap.objs.size, v]) ht hT hg (by with_unfolding_all rfl)
def cutV (xs : List V) (lo hi : Option Int) : List V := (xs.drop (HT.sIx xs.length 0 lo)).take (HT.sIx xs.length xs.length hi - HT.sIx xs.length 0 lo)
theorem cutV_length (xs : List V) (lo hi : Option Int) : (cutV xs lo hi).length ≤ xs.length := by
  unfold cutV
  rw [List.length_take, List.length_drop]
  omega
end
end L2
namespace L2
open PySem PySem.Spec PyProof.Rows
def ixN (n : Nat) (i : Int) : Option Nat := if 0 ≤ i then (if i < n then some i.toNat else none) else if -(n : Int) ≤ i then some (i + n).toNat else none
def atI {α : Type} (xs : List α) (i : Int) : Option α := (ixN xs.length i).bind fun j => xs[j]?
theorem ixN_seq {n : Nat} {i : Int} {j : Nat} (h : ixN n i = some j) : seqIndex? i n = some j ∧ j < n ∧ -(n : Int) ≤ i ∧ i < n := by
  unfold ixN at h
  by_cases h0 : 0 ≤ i
  · rw [if_pos h0] at h
    by_cases h1 : i < n
    · rw [if_pos h1] at h
      have e : i.toNat = j := Option.some.inj h
      exact ⟨by rw [seqIndex_of h0 h1, e], by omega, by omega, h1⟩
    · rw [if_neg h1] at h; cases h
  · rw [if_neg h0] at h
    by_cases h1 : -(n : Int) ≤ i
    · rw [if_pos h1] at h
      have e : (i + n).toNat = j := Option.some.inj h
      exact ⟨by rw [seqIndex_neg (by omega) h1, e], by omega, h1, by omega⟩
    · rw [if_neg h1] at h; cases h
theorem atI_get {α : Type} {xs : List α} {i : Int} {v : α} (h : atI xs i = some v) : ∃ j, seqIndex? i xs.length = some j ∧ xs[j]? = some v ∧ j < xs.length ∧ -(xs.length : Int) ≤ i ∧ i < xs.length := by
  unfold atI at h
  cases e : ixN xs.length i with
  | none => rw [e] at h; cases h
  | some j =>
    rw [e] at h
    obtain ⟨h1, h2, h3, h4⟩ := ixN_seq e
    exact ⟨j, h1, h, h2, h3, h4⟩
theorem atI_nat {α : Type} {xs : List α} {j : Nat} {v : α} (h : xs[j]? = some v) : atI xs (j : Int) = some v := by
  have hj : j < xs.length := (List.getElem?_eq_some_iff.mp h).1
  have e : ixN xs.length (j : Int) = some j := by
    unfold ixN
    rw [if_pos (by omega), if_pos (by omega)]; simp
  unfold atI; rw [e]; exact h
def PlainIx (b : Expr) : Prop := ∀ o i, subscripted b false o i = operate [o, i] (getItem o i)
def IxR (X : Cx) (r : R2) : Prop :=
  ∀ (value slice : Expr) (pins : List (Addr × Obj)) (s : Shared) (σ : St) (H : Hp) (x y : V) (v u : Value) (Q : VK), Inv X pins σ H s → RelV x v → RelV y u → r x y H Q →
    subscripted slice false v u = operate [v, u] (getItem v u) → wpAny (model X.prog X.w) X.A (subscriptTail value slice v u) (EP X pins σ Q) X.xe s
def MtR (X : Cx) (id : String) (r : V → List V → Hp → VK → Prop) : Prop :=
  ∀ (pins : List (Addr × Obj)) (s : Shared) (σ : St) (H : Hp) (x : V) (xs : List V) (v : Value) (us : List Value) (Q : VK), Inv X pins σ H s → RelV x v → Vals xs us → r x xs H Q →
    wpAny (model X.prog X.w) X.A (call (.builtin id) (v :: us)) (EP X pins σ Q) X.xe s
section
variable {X : Cx} {a b : Expr} {ta tb : TE} {pos : Pos}
theorem pe_ix {r : R2} (hr : IxR X r) (ha : PE X a ta) (hb : PE X b tb) (hs : PlainIx b) : PE X (.Subscript a b pos) (tOp r ta tb) := by
  intro pins s σ H Q I h
  exact Subscript_ (binT ha hb I h fun v u s2 x y H2 I2 rx ry q => hr a b pins s2 σ H2 x y v u Q I2 rx ry q (hs _ _))
def rIxL (K : PySem.W.Frag) : R2 := fun x y H Q => ∃ p xs i v, x = .ref p ∧ y = .int i ∧ SqL K H p xs ∧ atI xs i = some v ∧ Q v H
def rIxT (K : PySem.W.Frag) : R2 := fun x y H Q => ∃ p xs i v, x = .ref p ∧ y = .int i ∧ SqT K H p xs ∧ atI xs i = some v ∧ Q v H
theorem ix_list : IxR X (rIxL X.K) := by
  intro value slice pins s σ H x y v u Q I rx ry h hs
  obtain ⟨p, xs, i, z, rfl, rfl, hq, he, q⟩ := h
  cases rx
  obtain ⟨t, rfl⟩ := ry
  obtain ⟨its, r, pl, hz⟩ := I.list hq
  obtain ⟨j, h1, h2, h3, h4, h5⟩ := atI_get he
  obtain ⟨w, ew, rw'⟩ := r.get h2
  have hl := r.length
  have hn := line63
  have fin : EP X pins σ Q w s := ⟨z, H, I, rw', q⟩
  by_cases h0 : 0 ≤ i
  · have hj : i.toNat = j := by
      rw [seqIndex_of h0 h5] at h1
      exact Option.some.inj h1
    exact item_listR pl.isList h0 (by omega) (by rw [hj]; simpa using ew) fin hs
  · have hj : (i + (its.toArray.size : Int)).toNat = j := by
      rw [seqIndex_neg (by omega) h4] at h1
      rw [List.size_toArray, ← hl]
      exact Option.some.inj h1
    exact subscriptTail_builtinR (x := w) pl.isList.typeIs slot_list_getitem.lookup
      (wpAny_getItem_list_neg (Q := fun r s' => r = w ∧ EP X pins σ Q r s') pl.isList (by omega) (by rw [List.size_toArray] <;> omega) (by omega) (by rw [hj]; simpa using ew) ⟨rfl, fin⟩) hs
theorem ix_tup : IxR X (rIxT X.K) := by
  intro value slice pins s σ H x y v u Q I rx ry h hs
  obtain ⟨p, xs, i, z, rfl, rfl, hq, he, q⟩ := h
  cases rx
  obtain ⟨t, rfl⟩ := ry
  obtain ⟨its, r, pl, hz⟩ := I.tuple hq
  obtain ⟨j, h1, h2, h3, h4, h5⟩ := atI_get he
  obtain ⟨w, ew, rw'⟩ := r.get h2
  have hl := r.length
  have hn := line63
  have fin : EP X pins σ Q w s := ⟨z, H, I, rw', q⟩
  exact subscriptTail_builtinR (x := w) pl.typeIs slot_tuple_getitem.lookup
    (getItem_tuple (j := j) (Q := fun r s' => r = w ∧ EP X pins σ Q r s') pl (by omega) (by omega) (by rw [List.size_toArray, ← hl]; exact h1) (by simpa using ew) ⟨rfl, fin⟩) hs
theorem slice_bounds (lo hi : Option Int) (n : Nat) : (sliceBounds lo hi none n).1 = ((HT.sIx n 0 lo : Nat) : Int) ∧ (sliceBounds lo hi none n).2.1 = ((HT.sIx n n hi : Nat) : Int) ∧ (sliceBounds lo hi none n).2.2 = 1 := by
  refine ⟨?_, ?_, rfl⟩
  · cases lo with
    | none => simp [sliceBounds, HT.sIx]
    | some i =>
      simp only [sliceBounds, HT.sIx, Option.getD_none, show (1 : Int) > 0 by decide, if_true]
      by_cases h : i < 0
      · simp only [h, if_true] <;> omega
      · simp only [h, if_false] <;> omega
  · cases hi with
    | none => simp [sliceBounds, HT.sIx]
    | some i =>
      simp only [sliceBounds, HT.sIx, Option.getD_none, show (1 : Int) > 0 by decide, if_true]
      by_cases h : i < 0
      · simp only [h, if_true] <;> omega
      · simp only [h, if_false] <;> omega
theorem slicePick_cut (its : List Value) (lo hi : Option Int) : slicePick its.toArray lo hi none = ((its.drop (HT.sIx its.length 0 lo)).take (HT.sIx its.length its.length hi - HT.sIx its.length 0 lo)).toArray := by
  obtain ⟨h1, h2, h3⟩ := slice_bounds lo hi its.toArray.size
  unfold slicePick
  rw [h1, h2, h3]
  simp only [sliceRange_one, pick_run, List.size_toArray] <;> rfl
def rSlL (K : PySem.W.Frag) : V → Option Int → Option Int → Hp → VK → Prop := fun x lo hi H Q => ∃ a xs, x = .ref a ∧ SqL K H a xs ∧ ∀ p, H p = none → Q (.ref p) (upd H p (.lst (cutV xs lo hi)))
theorem sl_list : SlR X (rSlL X.K) := by
  intro pins s σ H x v vl vu lo hi sl Q I rx hs pl pu h
  obtain ⟨a, xs, rfl, hx, q⟩ := h
  cases rx
  obtain ⟨its, r, ht, hz⟩ := I.list hx
  have hlen := r.length
  refine ⟨"list", _, slot_list_getitem.lookup, ht.isList.typeIs, ?_⟩
  refine wpAny_getItem_list_slice ht.isList hs pl pu .none (by simp) ?_ (by rw [List.size_toArray] <;> omega)
  rw [slicePick_cut, ← hlen]
  refine ⟨.ref s.heap.objs.size, _, I.laid (t' := s.toks) (o := .lst (cutV xs lo hi)) (fun b ob q => Heap.get?_push_of_some _ q) (Nat.le_refl _) ?_, rfl, q _ (I.hok.fresh (Nat.le_refl _))⟩
  exact ⟨Nat.le_trans (cutV_length xs lo hi) hz, _, 0, (r.drop (HT.sIx xs.length 0 lo)).take (HT.sIx xs.length xs.length hi - HT.sIx xs.length 0 lo), Heap.get?_push_size _ rfl⟩
def flatV : V → Bool
  | .non => true
  | .bl _ => true
  | .int _ => true
  | .str _ => true
  | _ => false
def eqV : V → V → Bool
  | .non, .non => true
  | .bl a, .bl b => a == b
  | .bl a, .int b => (if a then 1 else 0) == b
  | .int a, .bl b => a == (if b then 1 else 0)
  | .int a, .int b => a == b
  | .str a, .str b => a == b
  | _, _ => false
theorem eqAt_V {A : Around} {s : Shared} {y x : V} {u v : Value} (ry : RelV y u) (rx : RelV x v) (fy : flatV y = true) (fx : flatV x = true) : SeqAt.EqAt A s u v (eqV y x) := by
  cases y with
  | non =>
    cases ry
    cases x with
    | non => cases rx; exact SeqAt.EqAt.same _
    | bl b => cases rx; exact SeqAt.EqAt.none_bool b
    | int b => obtain ⟨t, rfl⟩ := rx; exact SeqAt.EqAt.none_int b t
    | str b => obtain ⟨t, rfl⟩ := rx; exact SeqAt.EqAt.none_str b t
    | _ => exact absurd (show false = true from fx) Bool.false_ne_true
  | bl a =>
    cases ry
    cases x with
    | non => cases rx; exact SeqAt.EqAt.bool_none a
    | bl b => cases rx; exact SeqAt.EqAt.bool_bool a b
    | int b => obtain ⟨t, rfl⟩ := rx; exact SeqAt.EqAt.bool_int a b t
    | str b => obtain ⟨t, rfl⟩ := rx; exact SeqAt.EqAt.bool_str a b t
    | _ => exact absurd (show false = true from fx) Bool.false_ne_true
  | int a =>
    obtain ⟨t', rfl⟩ := ry
    cases x with
    | non => cases rx; exact SeqAt.EqAt.int_none a t'
    | bl b => cases rx; exact SeqAt.EqAt.int_bool a t' b
    | int b => obtain ⟨t, rfl⟩ := rx; exact SeqAt.EqAt.int_int a t' b t
    | str b => obtain ⟨t, rfl⟩ := rx; exact SeqAt.EqAt.int_str a t' b t
    | _ => exact absurd (show false = true from fx) Bool.false_ne_true
  | str a =>
    obtain ⟨t', rfl⟩ := ry
    cases x with
    | non => cases rx; exact SeqAt.EqAt.str_none a t'
    | bl b => cases rx; exact SeqAt.EqAt.str_bool a t' b
    | int b => obtain ⟨t, rfl⟩ := rx; exact SeqAt.EqAt.str_int a t' b t
    | str b => obtain ⟨t, rfl⟩ := rx; exact SeqAt.EqAt.str_str a t' b t
    | _ => exact absurd (show false = true from fx) Bool.false_ne_true
  | _ => exact absurd (show false = true from fy) Bool.false_ne_true
def eqU (x : V) (u : Value) : Bool := match u with
  | .none => eqV .non x
  | .bool b => eqV (.bl b) x
  | .int i _ => eqV (.int i) x
  | .str z _ => eqV (.str z) x
  | _ => false
theorem eqU_of {x y : V} {u : Value} (r : RelV y u) (f : flatV y = true) : eqU x u = eqV y x := by
  cases y with
  | non => cases r; rfl
  | bl b => cases r; rfl
  | int i => obtain ⟨t, rfl⟩ := r; rfl
  | str z => obtain ⟨t, rfl⟩ := r; rfl
  | _ => exact absurd (show false = true from f) Bool.false_ne_true
theorem any_eqU {x : V} : ∀ {xs : List V} {us : List Value}, Vals xs us → xs.all flatV = true → us.any (eqU x) = xs.any fun y => eqV y x
  | _, _, .nil, _ => rfl
  | y :: xs, u :: us, .cons r t, f => by
    rw [List.all_cons, Bool.and_eq_true] at f
    rw [List.any_cons, List.any_cons, eqU_of r f.1, any_eqU t f.2]
theorem mem_eqAt {A : Around} {s : Shared} {x : V} {v : Value} (rx : RelV x v) (fx : flatV x = true) : ∀ {xs : List V} {us : List Value}, Vals xs us → xs.all flatV = true → ∀ u ∈ us, SeqAt.EqAt A s u v (eqU x u)
  | _, _, .nil, _ => fun u hu => by cases hu
  | y :: xs, u :: us, .cons r t, f => fun u' hu => by
    rw [List.all_cons, Bool.and_eq_true] at f
    rcases List.mem_cons.mp hu with rfl | hu
    · rw [eqU_of r f.1]; exact eqAt_V r rx f.1 fx
    · exact mem_eqAt rx fx t f.2 u' hu
def inV (x : V) (xs : List V) : Bool := xs.any fun y => eqV y x
def rIn (K : PySem.W.Frag) (neg : Bool) : R2 := fun x y H Q => ∃ p xs, y = .ref p ∧ (SqL K H p xs ∨ SqT K H p xs) ∧ flatV x = true ∧ xs.all flatV = true ∧ Q (.bl (if neg then !inV x xs else inV x xs)) H
theorem op_in_seq : OpR X (compareOp .In) (rIn X.K false) := by
  intro pins s σ H x y v u Q I rx ry h
  obtain ⟨p, xs, rfl, hq, fx, fs, q⟩ := h
  cases ry
  rcases hq with hq | hq
  · obtain ⟨its, r, pl, hz⟩ := I.list hq
    refine SeqAt.in_listAt (eqU x) pl.isList (fun w hw => mem_eqAt rx fx r fs w (by simpa using hw)) ⟨.bl _, H, I, rfl, ?_⟩
    rw [show its.toArray.any (eqU x) = its.any (eqU x) by simp, any_eqU r fs]
    exact q
  · obtain ⟨its, r, pl, hz⟩ := I.tuple hq
    refine SeqAt.in_tupleAt (eqU x) pl (fun w hw => mem_eqAt rx fx r fs w (by simpa using hw)) ⟨.bl _, H, I, rfl, ?_⟩
    rw [show its.toArray.any (eqU x) = its.any (eqU x) by simp, any_eqU r fs]
    exact q
theorem call_len_seq : CallR X (.builtin "len") (fun xs H Q => ∃ p ys, xs = [.ref p] ∧ (SqL X.K H p ys ∨ SqT X.K H p ys) ∧ Q (.int ys.length) H) := by
  intro pins s σ H xs us Q I r h
  obtain ⟨p, ys, rfl, hq, q⟩ := h
  obtain ⟨u, rfl, rx⟩ := vals1 r
  cases rx
  have hn := line63
  rcases hq with hq | hq
  · obtain ⟨its, r', pl, hz⟩ := I.list hq
    have hlen := r'.length
    exact Calls.call_len_list pl.isList (by simp only [List.size_toArray] <;> omega) ⟨.int ys.length, H, I.tok _, ⟨s.toks + 1, by rw [List.size_toArray, hlen]⟩, q⟩
  · obtain ⟨its, r', pl, hz⟩ := I.tuple hq
    have hlen := r'.length
    exact len_tuple pl (by simp only [List.size_toArray] <;> omega) ⟨.int ys.length, H, I.tok _, ⟨s.toks + 1, by rw [List.size_toArray, hlen]⟩, q⟩
def tyV (K : PySem.W.Frag) (T : String) (x : V) (H : Hp) : Prop := match x with
  | .str _ => T = "str"
  | .int _ => T = "int"
  | .ref p => (T = "list" ∧ ∃ xs, SqL K H p xs) ∨ (T = "tuple" ∧ ∃ o, K.lookup p = some o ∧ o.cls = .type "tuple" ∧ o.dict = none) ∨
      (T = "dict" ∧ ((∃ kvs, H p = some (.dK kvs)) ∨ ∃ kvs, H p = some (.dT kvs))) ∨ (T = "set" ∧ ∃ S n, H p = some (.set S n))
  | _ => False
theorem tyV_is {pins : List (Addr × Obj)} {σ : St} {H : Hp} {s : Shared} {T : String} {x : V} {v : Value} (I : Inv X pins σ H s) (r : RelV x v) (ty : tyV X.K T x H) :
    s.TypeIs v T ∧ ∀ a, v = .ref a → ∃ ob, s.heap.get? a = some ob ∧ ob.dict = none := by
  cases x with
  | str z =>
    obtain ⟨t, rfl⟩ := r
    cases (show T = "str" from ty)
    exact ⟨typeIs_str s z t, fun _ e => nomatch e⟩
  | int i =>
    obtain ⟨t, rfl⟩ := r
    cases (show T = "int" from ty)
    exact ⟨typeIs_int s i t, fun _ e => nomatch e⟩
  | ref p =>
    cases r
    rcases ty with ⟨rfl, xs, hq⟩ | ⟨rfl, o, hk, hc, hd⟩ | ⟨rfl, hk⟩ | ⟨rfl, S, n, hk⟩
    · obtain ⟨its, _, pl, _⟩ := I.list hq
      refine ⟨pl.isList.typeIs, fun a e => ?_⟩
      cases e
      obtain ⟨o, n, e, c, hd, _⟩ := pl
      exact ⟨o, e, hd⟩
    · refine ⟨⟨o, I.kIn p o hk, hc⟩, fun a e => ?_⟩
      cases e
      exact ⟨o, I.kIn _ o hk, hd⟩
    · have z : ∃ o, s.heap.get? p = some o ∧ o.ExactDict := by
        rcases hk with ⟨kvs, hk⟩ | ⟨kvs, hk⟩
        · obtain ⟨_, _, _, _, o, _, _, e, ex, _⟩ := I.hok p _ hk
          exact ⟨o, e, ex⟩
        · obtain ⟨_, _, _, _, o, _, _, e, ex, _⟩ := I.hok p _ hk
          exact ⟨o, e, ex⟩
      obtain ⟨o, e, ex⟩ := z
      refine ⟨⟨o, e, ex.1⟩, fun a e2 => ?_⟩
      cases e2
      exact ⟨o, e, ex.2.1⟩
    · obtain ⟨o, _, _, _, e, ex, _⟩ := I.hok p _ hk
      refine ⟨⟨o, e, ex.1⟩, fun a e2 => ?_⟩
      cases e2
      exact ⟨o, e, ex.2.1⟩
  | _ => exact False.elim ty
def tBM (K : PySem.W.Frag) (T : String) (r : V → List V → Hp → VK → Prop) (to : TE) (t : TA) : TE := fun σ H Q => to σ H fun x H1 => tyV K T x H1 ∧ t σ H1 fun xs H2 => r x xs H2 Q
variable {o e : Expr} {es : List Expr} {to : TE} {t : TA} {name : Str} {apos cpos : Pos} {T id : String} {r : V → List V → Hp → VK → Prop}
theorem pe_bm (pa : PlainAttrs T) (slot : Slot T name id) (hty : typeOf (.builtin id) = pure (.type "method_descriptor")) (hm : MtR X id r) (ho : PE X o to) (ha : PA X (e :: es) t)
    (hbase : attributeBase o name X.env (eval o X.env) = eval o X.env := by rfl)
    (hfew : ((backTo cpos (starEach (e :: es) X.env)).all (fun x => !x.1) && (backToKw cpos (keywordEach [] X.env)).all (fun x => x.1.isSome)
      && decide ((e :: es).length + ([] : List Keyword).length + (if ([] : List Keyword).isEmpty then 0 else 1) < 30)) = true := by rfl)
    (hline : (apos.endLine == cpos.line) = true := by rfl) (hs : starEach (e :: es) X.env = (false, eval e X.env) :: starEach es X.env := by rfl) (hplain : (backTo cpos (starEach es X.env)).any (·.1) = false := by rfl) :
    PE X (.Call (.Attribute o name apos) (e :: es) [] cpos) (tBM X.K T r to t) := by
  intro pins s σ H Q I h
  refine wpAny_Call_method_late hbase hfew hline rfl (thn (ho pins s σ H _ I h) fun v s1 ⟨x, H1, I1, r1, ty, q1⟩ => ?_)
  obtain ⟨h1, h2⟩ := tyV_is I1 r1 ty
  refine ⟨T, id, pa, slot, hty, h1, h2, ?_⟩
  have hA := ha cpos pins s1 σ H1 _ I1 q1
  rw [hs] at hA ⊢
  refine Calls.callWith_builtin (by show (false || (backTo cpos (starEach es X.env)).any (·.1)) = false; rw [hplain] <;> rfl) (Calls.evalArgs_plain ?_)
  exact thn hA fun us s2 ⟨vs, H2, I2, r2, q2⟩ => hm pins s2 σ H2 x vs v us Q I2 r1 r2 q2
end
end L2
namespace L2
open PySem PySem.Spec PyProof.Rows
def MtM (X : Cx) (id : String) (r : V → List V → Hp → VK → Prop) : Prop :=
  ∀ (pins : List (Addr × Obj)) (s : Shared) (σ : St) (H : Hp) (x : V) (xs : List V) (v : Value) (us : List Value) (Q : VK), Inv X pins σ H s → RelV x v → Vals xs us → r x xs H Q →
    wpAny (model X.prog X.w) X.A (call (.builtin id) (v :: us)) (EP X pins σ Q) X.xe s
theorem Vals.one : ∀ {x : V} {us : List Value}, Vals [x] us → ∃ u, us = [u] ∧ RelV x u
  | _, _, .cons r .nil => ⟨_, rfl, r⟩
section
variable {X : Cx} {pins : List (Addr × Obj)} {σ : St} {H : Hp} {s : Shared} {l b : Addr} {xs ys zs : List V}
theorem Inv.lset {its its' : List Value} {n : Nat} {f : Array Value → Array Value} {t' : Nat} (I : Inv X pins σ H s) (hH : H l = some (.lst xs))
    (e : s.heap.get? l = some { cls := .type "list", data := .seq its.toArray n }) (hf : f its.toArray = its'.toArray) (hv : Vals ys its') (hz : ys.length ≤ sizeLine) :
    Inv X pins σ (upd H l (.lst ys)) { s with heap := s.heap.update l (Obj.mapSeq f), toks := t' } := by
  have q := PySem.IsL.update e f
  rw [hf] at q
  refine I.write (x := l) (e := l) (by rw [hH]; exact trivial) (.inl rfl) (fun b' u hb hu => (Heap.get?_update_other s.heap (Obj.mapSeq f) (Ne.symm hb)).trans hu) ⟨_, q⟩ ?_
  exact ⟨hz, its', _, hv, q⟩
theorem Inv.lnew {its : List Value} {t' : Nat} (I : Inv X pins σ H s) (hv : Vals ys its) (hz : ys.length ≤ sizeLine) :
    Inv X pins σ (upd H s.heap.objs.size (.lst ys)) { s with heap := s.heap.push { cls := .type "list", data := .seq its.toArray }, toks := t' } :=
  I.laid (fun _ _ q => Heap.get?_push_of_some _ q) (Nat.le_refl _) ⟨hz, its, 0, hv, Heap.get?_push_size _ rfl⟩
theorem Inv.fresh (I : Inv X pins σ H s) : H s.heap.objs.size = none := I.hok.fresh (Nat.le_refl _)
theorem Inv.lstM (I : Inv X pins σ H s) (hH : H l = some (.lst xs)) : xs.length ≤ sizeLine ∧ ∃ (its : List Value) (n : Nat), Vals xs its ∧ xs.length = its.length ∧ s.heap.get? l = some { cls := .type "list", data := .seq its.toArray n } := by
  obtain ⟨z, its, n, r, e⟩ := I.hok l _ hH
  exact ⟨z, its, n, r, r.length, e⟩
theorem notLongL {n : Nat} (h : n ≤ sizeLine) : Builtin.List.listTooLong n = false := by
  unfold Builtin.List.listTooLong
  exact decide_eq_false (by omega)
end
section
variable {X : Cx}
def rAppend : V → List V → Hp → VK → Prop := fun x vs H Q => ∃ l xs y, x = .ref l ∧ vs = [y] ∧ H l = some (.lst xs) ∧ xs.length < sizeLine ∧ Q .non (upd H l (.lst (xs ++ [y])))
theorem mt_append : MtM X "list.append" rAppend := by
  intro pins s σ H x vs v us Q I rx rv h
  obtain ⟨l, xs, y, rfl, rfl, hH, hz, q⟩ := h
  cases rx
  obtain ⟨u, rfl, ru⟩ := rv.one
  obtain ⟨z, its, n, r, hl, e⟩ := I.lstM hH
  refine call_meets F.slot_list_append ⟨_, e, rfl⟩ F.entry_list_append (F.args_list_append_2 _ _) (PySem.list_append l its.toArray n u (by rw [List.size_toArray]; omega)) ⟨e, ?_⟩
  refine ⟨.non, _, I.lset (its' := its ++ [u]) hH e (by simp) (r.append (.cons ru .nil)) ?_, rfl, q⟩
  rw [List.length_append, List.length_singleton]
  omega
def rExtend : V → List V → Hp → VK → Prop := fun x vs H Q => ∃ l b xs zs, x = .ref l ∧ vs = [.ref b] ∧ H l = some (.lst xs) ∧ H b = some (.lst zs) ∧ xs.length + zs.length ≤ sizeLine ∧ Q .non (upd H l (.lst (xs ++ zs)))
theorem mt_extend : MtM X "list.extend" rExtend := by
  intro pins s σ H x vs v us Q I rx rv h
  obtain ⟨l, b, xs, zs, rfl, rfl, hH, hB, hz, q⟩ := h
  cases rx
  obtain ⟨u, rfl, ru⟩ := rv.one
  cases ru
  obtain ⟨z, its, n, r, hl, e⟩ := I.lstM hH
  obtain ⟨z2, its2, n2, r2, hl2, e2⟩ := I.lstM hB
  have hsz : its.toArray.size + its2.toArray.size ≤ sizeLine := by rw [List.size_toArray, List.size_toArray]; omega
  have hlong : ¬ (!its.toArray.isEmpty && Builtin.List.listTooLong (its.toArray.size + its2.toArray.size)) = true := by
    rw [notLongL hsz, Bool.and_false]
    exact Bool.false_ne_true
  refine call_meets F.slot_list_extend ⟨_, e, rfl⟩ F.entry_list_extend (F.args_list_extend_2 _ _)
    (AutoSeq1.list_extend_list_list_0 l its.toArray n b its2.toArray n2 hlong (by rw [List.size_toArray]; omega) (by omega)) ⟨e, e2, ?_⟩
  refine ⟨.non, _, I.lset (its' := its ++ its2) hH e (by simp) (r.append r2) ?_, rfl, q⟩
  rw [List.length_append]
  omega
def rCat : R2 := fun x y H Q => ∃ l b xs zs, x = .ref l ∧ y = .ref b ∧ H l = some (.lst xs) ∧ H b = some (.lst zs) ∧ xs.length + zs.length ≤ sizeLine ∧ ∀ p, H p = none → Q (.ref p) (upd H p (.lst (xs ++ zs)))
theorem op_cat : OpR X (binaryOp .Add) rCat := by
  intro pins s σ H x y v u Q I rx ry h
  obtain ⟨l, b, xs, zs, rfl, rfl, hH, hB, hz, q⟩ := h
  cases rx
  cases ry
  obtain ⟨z, its, n, r, hl, e⟩ := I.lstM hH
  obtain ⟨z2, its2, n2, r2, hl2, e2⟩ := I.lstM hB
  refine PySem.P.add_list e e2 ?_ (by rw [List.size_toArray, List.size_toArray]; omega)
  have ea : its.toArray ++ its2.toArray = (its ++ its2).toArray := by simp
  rw [ea]
  exact ⟨.ref _, _, I.lnew (t' := s.toks) (r.append r2) (by rw [List.length_append]; omega), rfl, q _ I.fresh⟩
end
section
variable {prog : Program} {w : World} {A : Around} {E : Value → Shared → Prop} {s : Shared}
set_option maxRecDepth 100000 in
end
section
variable {X : Cx}
end
end L2
namespace L2
open PySem PySem.Spec PyProof.Rows
theorem Vals.bls : ∀ {bs : List Bool} {us : List Value}, Vals (bs.map V.bl) us → us = bs.map Value.bool
  | [], us, h => by
    rw [List.map_nil] at h
    cases h
    rfl
  | b :: bs, us, h => by
    rw [List.map_cons] at h
    cases h with
    | cons r t =>
      cases r
      rw [Vals.bls t, List.map_cons]
theorem Vals.ref1 {a : Addr} {us : List Value} (r : Vals [V.ref a] us) : us = [Value.ref a] := by
  cases r with
  | cons r t =>
    cases t
    cases r
    rfl
section
variable {prog : Program} {w : World} {A : Around} {E : Value → Shared → Prop} {s : Shared} {l : Addr} {its : List Value} {ns : List Int} {Q : Value → Shared → Prop}
end
section
variable {X : Cx}
end
section
variable {X : Cx}
end
section
variable {X : Cx}
end
theorem iter_any {prog : Program} {w : World} {A : Around} {E : Value → Shared → Prop} {s : Shared} {l : Addr} {items : Array Value} {Q : Value → Shared → Prop} (hl : s.heap.IsList l items)
    (h : ∀ s₂ : Shared, s₂ = { s with heap := s.heap.push { cls := .type "list_iterator", data := .fields #[.ref l, .int 0 0] } } →
      (s₂.heap.IsListIter s.heap.objs.size l 0 ∧ s₂.heap.IsList l items) → l ≠ s.heap.objs.size → Q (.ref s.heap.objs.size) s₂) : wpAny (model prog w) A (pyIter (.ref l)) Q E s := by
  have hlt : l < s.heap.objs.size := by obtain ⟨_, e, _⟩ := hl; exact Heap.lt_size e
  exact wpAny_pyIter_list hl (h _ rfl ⟨⟨_, Heap.get?_push_size _ rfl, rfl, rfl⟩, hl.push _⟩ (Nat.ne_of_lt hlt))
theorem truth_bools {prog : Program} {w : World} {A : Around} {bs : List Bool} {its : List Value} (e : its = bs.map Value.bool) :
    TruthOf prog w A (fun i v => its.toArray[i]? = some v) (fun i => bs.getD i false) := fun i v s Q E hv hq => by
  have hv' : its[i]? = some v := by simpa using hv
  rw [e, List.getElem?_map] at hv'
  obtain ⟨b, hb, rfl⟩ := Option.map_eq_some_iff.mp hv'
  have hg : bs.getD i false = b := by rw [List.getD_eq_getElem?_getD, hb] <;> rfl
  have hq' : Q (bs.getD i false) s := hq
  rw [hg] at hq'
  exact wpAny_truthy_bool hq'
theorem any_range : ∀ bs : List Bool, (List.range bs.length).any (fun i => bs.getD i false) = bs.any id
  | [] => rfl
  | b :: bs => by
    rw [List.length_cons, List.range_succ_eq_map, List.any_cons, List.any_map, List.any_cons, ← any_range bs]
    all_goals rfl
section
variable {X : Cx}
def rAny (K : PySem.W.Frag) : List V → Hp → VK → Prop := fun vs H Q => ∃ (a : Addr) (bs : List Bool), vs = [V.ref a] ∧ SqL K H a (bs.map V.bl) ∧ Q (.bl (bs.any id)) H
theorem cr_any (hc : X.calm = true) : CallR X (.builtin "any") (rAny X.K) := by
  intro pins s σ H vs us Q I r h
  obtain ⟨a, bs, rfl, hs, q⟩ := h
  obtain ⟨its, rv, hl, _⟩ := I.list hs
  rw [Vals.ref1 r]
  have hb := rv.bls
  refine call_any_walk (iter_any hl.isList fun s₂ e2 st hne => ?_)
  subst e2
  refine ⟨_, _, _, _, _, _, _, rfl, Walks.list (A := X.A.in1) (I.ok.hd hc) _ a hne its.toArray, st, truth_bools hb, fun h' tk hk => ?_⟩
  refine ⟨.bl _, H, I.kept fun b o eo => hk b o (fun hmem => ?_) (Heap.get?_push_of_some _ eo), ?_, q⟩
  · rcases List.mem_cons.mp hmem with e1 | hmem
    · exact absurd (e1 ▸ Heap.lt_size eo) (Nat.lt_irrefl _)
    · cases hmem
  · show Value.bool _ = Value.bool _
    rw [← any_range, hb, List.size_toArray, List.length_map]
end
mutual
inductive Dp (K : PySem.W.Frag) (H : Hp) : V → PyData → Prop
  | non : Dp K H .non .none
  | bl (b : Bool) : Dp K H (.bl b) (.bool b)
  | int (i : Int) : Dp K H (.int i) (.int i)
  | str (x : Str) : Dp K H (.str x) (.str x)
  | lst {a : Addr} {xs : List V} {ds : List PyData} : SqL K H a xs → DpAll K H xs ds → Dp K H (.ref a) (.list ds)
  | tup {a : Addr} {xs : List V} {ds : List PyData} : SqT K H a xs → DpAll K H xs ds → Dp K H (.ref a) (.tuple ds)
inductive DpAll (K : PySem.W.Frag) (H : Hp) : List V → List PyData → Prop
  | nil : DpAll K H [] []
  | cons {v : V} {vs : List V} {d : PyData} {ds : List PyData} : Dp K H v d → DpAll K H vs ds → DpAll K H (v :: vs) (d :: ds)
end
section
variable {X : Cx} {pins : List (Addr × Obj)} {σ : St} {H : Hp} {s : Shared}
mutual
theorem Dp.reads (I : Inv X pins σ H s) : ∀ (d : PyData) (v : V) (u : Value), Dp X.K H v d → RelV v u → ∃ as, Reads s.heap u d as
  | .none, _, _, h, r => by
    cases h
    cases r
    exact ⟨_, Reads.none⟩
  | .bool b, _, _, h, r => by
    cases h
    cases r
    exact ⟨_, Reads.bool b⟩
  | .int i, _, _, h, r => by
    cases h
    obtain ⟨t, rfl⟩ := r
    exact ⟨_, Reads.int i t⟩
  | .str x, _, _, h, r => by
    cases h
    obtain ⟨t, rfl⟩ := r
    exact ⟨_, Reads.str x t⟩
  | .list ds, _, _, h, r => by
    cases h with
    | lst hs ha =>
      cases r
      obtain ⟨its, rv, ⟨o, n, ho, hc, _, hd⟩, _⟩ := I.list hs
      obtain ⟨as, hr⟩ := Dp.readsAll I ds _ its ha rv
      exact ⟨_, Reads.list ho hc hd hr⟩
  | .tuple ds, _, _, h, r => by
    cases h with
    | tup hs ha =>
      cases r
      obtain ⟨its, rv, ⟨o, ho, hc, n, hd⟩, _⟩ := I.tuple hs
      obtain ⟨as, hr⟩ := Dp.readsAll I ds _ its ha rv
      exact ⟨_, Reads.tuple ho hc hd hr⟩
  | .dict _, _, _, h, _ => by cases h
theorem Dp.readsAll (I : Inv X pins σ H s) : ∀ (ds : List PyData) (vs : List V) (us : List Value), DpAll X.K H vs ds → Vals vs us → ∃ as, ReadsAll s.heap us ds as
  | [], _, _, h, r => by
    cases h
    cases r
    exact ⟨_, ReadsAll.nil⟩
  | d :: ds, _, _, h, r => by
    cases h with
    | cons h1 h2 =>
      cases r with
      | cons r1 r2 =>
        obtain ⟨as, q1⟩ := Dp.reads I d _ _ h1 r1
        obtain ⟨bs, q2⟩ := Dp.readsAll I ds _ _ h2 r2
        exact ⟨_, ReadsAll.cons q1 q2⟩
end
end
section
variable {X : Cx}
def rEqD (K : PySem.W.Frag) : R2 := fun x y H Q => ∃ d e, Dp K H x d ∧ Dp K H y e ∧ SeqAt.shaped d = true ∧ SeqAt.shaped e = true ∧ Q (.bl (PyData.eqv d e)) H
def rNeD (K : PySem.W.Frag) : R2 := fun x y H Q => ∃ d e, Dp K H x d ∧ Dp K H y e ∧ SeqAt.shaped d = true ∧ SeqAt.shaped e = true ∧ Q (.bl (!PyData.eqv d e)) H
theorem op_eqD (hu : X.A.units + 64 < cLine) : OpR X (compareOp .Eq) (rEqD X.K) := by
  intro pins s σ H x y v u Q I rx ry h
  obtain ⟨d, e, hd, he, sd, se, q⟩ := h
  obtain ⟨as, r1⟩ := Dp.reads I d x v hd rx
  obtain ⟨bs, r2⟩ := Dp.reads I e y u he ry
  exact SeqAt.compareEq_shaped r1 r2 sd se hu ⟨.bl _, H, I, rfl, q⟩
theorem op_neD (hu : X.A.units + 64 < cLine) : OpR X (compareOp .NotEq) (rNeD X.K) := by
  intro pins s σ H x y v u Q I rx ry h
  obtain ⟨d, e, hd, he, sd, se, q⟩ := h
  obtain ⟨as, r1⟩ := Dp.reads I d x v hd rx
  obtain ⟨bs, r2⟩ := Dp.reads I e y u he ry
  exact SeqAt.compareNe_shaped r1 r2 sd se hu ⟨.bl _, H, I, rfl, q⟩
end
end L2
namespace L2
open PySem PySem.Spec PyProof.Rows
abbrev CellAt (h : Heap) (c : Addr) (v : Option Value) : Prop := h.IsCell c v
def relS (scope sc : Scope) : Scope :=
  { scope with names := scope.names.map fun (n, k) => if (k == .free && sc.kind == .function && sc.names.lookup n == some .cell) then (n, .cell) else (n, k) }
def cloFrom (cells : List (Str × Addr)) : List (Str × NameKind) → List (Str × Addr) → List (Str × Addr)
  | [], acc => acc
  | (n, k) :: r, acc => if k == .free then cloFrom cells r ((n, (cells.lookup n).getD 0) :: acc) else cloFrom cells r acc
theorem closure_loop (env : Env) (f : Str × NameKind → List (Str × Addr) → Sem (ForInStep (List (Str × Addr))))
    (hf : ∀ n k c, f (n, k) c = if k == .free then (do let a ← cellOf env n; pure (.yield ((n, a) :: c))) else pure (.yield c)) :
    ∀ (names : List (Str × NameKind)) (acc : List (Str × Addr)), (∀ y ∈ names, y.2 = .free → ∃ c, env.cells.lookup y.1 = some c) → forIn names acc f = pure (cloFrom env.cells names acc)
  | [], acc, _ => by rw [List.forIn_nil]; rfl
  | (n, k) :: r, acc, h => by
    rw [List.forIn_cons, hf]
    have ih := fun acc => closure_loop env f hf r acc fun y hy => h y (List.mem_cons_of_mem _ hy)
    unfold cloFrom
    by_cases hk : (k == NameKind.free) = true
    · rw [if_pos hk, if_pos hk]
      obtain ⟨c, hc⟩ := h (n, k) List.mem_cons_self (by simpa using hk)
      have e : cellOf env n = pure c := by unfold cellOf; rw [hc]
      rw [e]
      have e2 : (env.cells.lookup n).getD 0 = c := by rw [hc]; rfl
      rw [e2]
      exact ih _
    · rw [if_neg hk, if_neg hk]
      exact ih _
theorem closure_ok {scope : Scope} {env : Env} (h : ∀ y ∈ scope.names, y.2 = .free → ∃ c, env.cells.lookup y.1 = some c) : closureFor scope env = pure (cloFrom env.cells scope.names []) := by
  simp only [closureFor]
  rw [closure_loop env _ (fun n k c => rfl) scope.names [] h]
  rfl
theorem mem_lookup {α : Type} : ∀ {l : List (Str × α)} {n : Str} {c : α}, (n, c) ∈ l → ∃ c', l.lookup n = some c'
  | (k, v) :: r, n, c, h => by
    rw [List.lookup_cons]
    cases hb : n == k with
    | true => exact ⟨_, rfl⟩
    | false =>
      rcases List.mem_cons.mp h with e | h
      · cases e; simp at hb
      · exact mem_lookup h
theorem cloFrom_mem {cells : List (Str × Addr)} : ∀ {names : List (Str × NameKind)} {acc : List (Str × Addr)} {n : Str} {c : Addr}, (n, c) ∈ cloFrom cells names acc → (n, c) ∈ acc ∨ ((n, .free) ∈ names ∧ c = (cells.lookup n).getD 0)
  | [], _, _, _, h => .inl h
  | (m, k) :: r, acc, n, c, h => by
    unfold cloFrom at h
    split at h
    · rename_i hk
      have hk : k = .free := by simpa using hk
      rcases cloFrom_mem h with h | ⟨h1, h2⟩
      · rcases List.mem_cons.mp h with e | h
        · cases e; exact .inr ⟨hk ▸ List.mem_cons_self, rfl⟩
        · exact .inl h
      · exact .inr ⟨List.mem_cons_of_mem _ h1, h2⟩
    · rcases cloFrom_mem h with h | ⟨h1, h2⟩
      · exact .inl h
      · exact .inr ⟨List.mem_cons_of_mem _ h1, h2⟩
theorem cloFrom_acc {cells : List (Str × Addr)} : ∀ {names : List (Str × NameKind)} {acc : List (Str × Addr)} {p : Str × Addr}, p ∈ acc → p ∈ cloFrom cells names acc
  | [], _, _, h => h
  | (m, k) :: r, acc, p, h => by
    unfold cloFrom
    split
    · exact cloFrom_acc (List.mem_cons_of_mem _ h)
    · exact cloFrom_acc h
theorem cloFrom_has {cells : List (Str × Addr)} : ∀ {names : List (Str × NameKind)} {acc : List (Str × Addr)} {n : Str}, (n, .free) ∈ names → (n, (cells.lookup n).getD 0) ∈ cloFrom cells names acc
  | (m, k) :: r, acc, n, h => by
    unfold cloFrom
    rcases List.mem_cons.mp h with e | h
    · cases e
      exact cloFrom_acc List.mem_cons_self
    · split
      · exact cloFrom_has h
      · exact cloFrom_has h
theorem cells_mem : ∀ {names : List (Str × NameKind)} {h : Heap} {acc : List (Str × Addr)} {x : Str} {c : Addr}, (x, c) ∈ cellsFrom h.objs.size names acc →
    (x, c) ∈ acc ∨ ((x, .cell) ∈ names ∧ h.objs.size ≤ c ∧ CellAt (pushCells h names) c none)
  | [], _, _, _, _, h => .inl h
  | (n, k) :: r, h, acc, x, c, hm => by
    unfold cellsFrom at hm
    unfold pushCells
    split at hm
    · rename_i hk
      rw [if_pos hk]
      have hk : k = .cell := by simpa using hk
      rw [← Heap.size_push h { cls := .type "cell", data := .cell none }] at hm
      rcases cells_mem hm with hm | ⟨h1, h2, h3⟩
      · rcases List.mem_cons.mp hm with e | hm
        · cases e
          exact .inr ⟨hk ▸ List.mem_cons_self, Nat.le_refl _, _, pushCells_keeps r _ _ _ (Heap.get?_push_size _ rfl), rfl⟩
        · exact .inl hm
      · rw [Heap.size_push] at h2
        exact .inr ⟨List.mem_cons_of_mem _ h1, Nat.le_of_succ_le h2, h3⟩
    · rename_i hk
      rw [if_neg hk]
      rcases cells_mem hm with hm | ⟨h1, h2, h3⟩
      · exact .inl hm
      · exact .inr ⟨List.mem_cons_of_mem _ h1, h2, h3⟩
theorem cells_acc : ∀ {names : List (Str × NameKind)} {n : Nat} {acc : List (Str × Addr)} {p : Str × Addr}, p ∈ acc → p ∈ cellsFrom n names acc
  | [], _, _, _, h => h
  | (m, k) :: r, n, acc, p, h => by
    unfold cellsFrom
    split
    · exact cells_acc (List.mem_cons_of_mem _ h)
    · exact cells_acc h
theorem cells_has : ∀ {names : List (Str × NameKind)} {n : Nat} {acc : List (Str × Addr)} {x : Str}, (x, .cell) ∈ names → ∃ c, (x, c) ∈ cellsFrom n names acc
  | (m, k) :: r, n, acc, x, h => by
    unfold cellsFrom
    rcases List.mem_cons.mp h with e | h
    · cases e
      exact ⟨n, cells_acc List.mem_cons_self⟩
    · split
      · exact cells_has h
      · exact cells_has h
theorem cells_inj : ∀ {names : List (Str × NameKind)} {h : Heap} {acc : List (Str × Addr)} {x y : Str} {c : Addr}, (∀ p ∈ acc, p.2 < h.objs.size) → (∀ x y c, (x, c) ∈ acc → (y, c) ∈ acc → x = y) →
    (x, c) ∈ cellsFrom h.objs.size names acc → (y, c) ∈ cellsFrom h.objs.size names acc → x = y
  | [], _, _, _, _, _, _, hi, h1, h2 => hi _ _ _ h1 h2
  | (n, k) :: r, h, acc, x, y, c, hl, hi, h1, h2 => by
    unfold cellsFrom at h1 h2
    split at h1
    · rename_i hk
      rw [if_pos hk] at h2
      rw [← Heap.size_push h { cls := .type "cell", data := .cell none }] at h1 h2
      refine cells_inj (h := h.push _) (fun p hp => ?_) (fun x y c a b => ?_) h1 h2
      · rw [Heap.size_push]
        rcases List.mem_cons.mp hp with rfl | hp
        · exact Nat.lt_succ_self _
        · exact Nat.lt_succ_of_lt (hl p hp)
      · rcases List.mem_cons.mp a with e | a <;> rcases List.mem_cons.mp b with e' | b
        · cases e; cases e'; rfl
        · cases e; exact absurd (hl _ b) (Nat.lt_irrefl _)
        · cases e'; exact absurd (hl _ a) (Nat.lt_irrefl _)
        · exact hi _ _ _ a b
    · rename_i hk
      rw [if_neg hk] at h2
      exact cells_inj hl hi h1 h2
theorem newEnv_comp {M : Model} {A : Around} {E : Value → Shared → Prop} {s : Shared} {scope : Scope} {globals : Addr} {closure : List (Str × Addr)} {qual : Str} {func : Option Addr} {code : Value} {around : Env} {builtins : Addr} {Q : Env → Shared → Prop}
    (h : Q (newEnv scope s.heap.objs.size globals (cellsFrom (s.heap.objs.size + 1) scope.names closure) qual func code (some around) builtins)
      { s with heap := pushCells (s.heap.push { cls := .type "dict", data := .dict #[] }) scope.names }) :
    wpAny M A (newFunctionEnv scope globals closure [] qual func code (some around) builtins) Q E s := by
  simp only [newFunctionEnv, Option.isSome_some, if_true]
  refine wpAny_bind (wpAny_alloc ?_)
  refine wpAny_bind (wpAny_layCells _ (fun n k c => rfl) scope.names closure _ _ ?_)
  rw [show ({ s with heap := s.heap.push { cls := .type "dict", data := .dict #[] } } : Shared).heap.objs.size = s.heap.objs.size + 1 from Heap.size_push ..]
  rw [List.forIn_nil]
  exact wpAny_bind (wpAny_pure (wpAny_pure h))
theorem lookup_relS {sc : Scope} : ∀ {names : List (Str × NameKind)} {x : Str} {k : NameKind},
    (names.map fun (n, k) => if (k == NameKind.free && sc.kind == .function && sc.names.lookup n == some .cell) then (n, NameKind.cell) else (n, k)).lookup x = some k →
    ∃ k', names.lookup x = some k' ∧ (k = k' ∨ (k' = .free ∧ k = .cell))
  | [], _, _, h => by simp at h
  | (n, k₀) :: r, x, k, h => by
    have ih := @lookup_relS sc r x k
    have h' : List.lookup x ((if (k₀ == NameKind.free && sc.kind == .function && sc.names.lookup n == some .cell) = true then (n, NameKind.cell) else (n, k₀)) :: (r.map _)) = some k := h
    cases hx : x == n with
    | true =>
      simp only [List.lookup_cons, hx]
      by_cases hc : (k₀ == NameKind.free && sc.kind == .function && sc.names.lookup n == some .cell) = true
      · rw [if_pos hc] at h'
        simp only [List.lookup_cons, hx] at h'
        cases h'
        simp only [Bool.and_eq_true, beq_iff_eq] at hc
        exact ⟨k₀, rfl, .inr ⟨hc.1.1, rfl⟩⟩
      · rw [if_neg hc] at h'
        simp only [List.lookup_cons, hx] at h'
        cases h'
        exact ⟨_, rfl, .inl rfl⟩
    | false =>
      simp only [List.lookup_cons, hx]
      by_cases hc : (k₀ == NameKind.free && sc.kind == .function && sc.names.lookup n == some .cell) = true
      · rw [if_pos hc] at h'
        simp only [List.lookup_cons, hx] at h'
        exact ih h'
      · rw [if_neg hc] at h'
        simp only [List.lookup_cons, hx] at h'
        exact ih h'
structure BlkOk (N : List Str) (sc scope : Scope) (own : List (Str × Nat)) : Prop where
  kind : scope.kind = .function
  uniq : ∀ y ∈ scope.names, scope.names.lookup y.1 = some y.2
  ix : ∀ p ∈ own, N[p.2]? = some p.1
  free : ∀ y ∈ scope.names, y.2 = .free → sc.names.lookup y.1 = some .cell ∨ sc.names.lookup y.1 = some .free
  own : ∀ y ∈ scope.names, y.2 = .local ∨ y.2 = .cell → y.1 ∈ own.map (·.1) ∨ y.1 ∉ N
def wipe (σ : St) : List Nat → St
  | [] => σ
  | v :: vs => (wipe σ vs).set v none
theorem wipe_length (σ : St) : ∀ vs : List Nat, (wipe σ vs).length = σ.length
  | [] => rfl
  | v :: vs => by unfold wipe; rw [List.length_set, wipe_length σ vs]
theorem wipe_some {σ : St} {i : Nat} {x : V} : ∀ {vs : List Nat}, (wipe σ vs)[i]? = some (some x) → σ[i]? = some (some x) ∧ i ∉ vs
  | [], h => ⟨h, by simp⟩
  | v :: vs, h => by
    unfold wipe at h
    by_cases hi : v = i
    · subst hi
      by_cases hv : v < (wipe σ vs).length
      · rw [List.getElem?_set_self hv] at h; cases h
      · rw [List.getElem?_eq_none (by simpa using hv)] at h; cases h
    · rw [List.getElem?_set_ne hi] at h
      obtain ⟨h1, h2⟩ := wipe_some h
      exact ⟨h1, by simp only [List.mem_cons, not_or]; exact ⟨fun e => hi e.symm, h2⟩⟩
abbrev Cx.blk (X : Cx) (s : Shared) (H : Hp) (scope : Scope) (cenv : Env) (fp : List Addr) : Cx := { X with s_0 := s, H_0 := H, env := cenv, outer := X.stack, ex := fp, fn := fun x => scope.names.lookup x == some .cell, pn := [], xe := fun _ _ => False }
section
variable {X : Cx} {pins : List (Addr × Obj)} {σ : St} {H : Hp} {s : Shared}
theorem block_start {scope : Scope} {own : List (Str × Nat)} {fp : List Addr} (I : Inv X pins σ H s) (ok : BlkOk X.N X.env.scope scope own) (hN : X.N.Nodup) (hfp : ∀ b ∈ fp, FpOk X pins H b ∧ b < s.heap.objs.size) :
    Inv (X.blk s H scope (compEnvC scope (cellsFrom (s.heap.objs.size + 1) scope.names (cloFrom X.env.cells scope.names [])) s.heap.objs.size X.env) fp) [] (wipe σ (own.map (·.2))) H { s with heap := pushCells (s.heap.push { cls := .type "dict", data := .dict #[] }) scope.names } := by
  have hfree : ∀ y ∈ scope.names, y.2 = .free → ∃ c, X.env.cells.lookup y.1 = some c := fun y hy e => by
    rcases ok.free y hy e with k | k
    · exact I.ok.has _ (.inl k)
    · exact I.ok.has _ (.inr k)
  generalize hcenv : compEnvC scope (cellsFrom (s.heap.objs.size + 1) scope.names (cloFrom X.env.cells scope.names [])) s.heap.objs.size X.env = cenv
  have kp : ∀ b o, s.heap.get? b = some o → (pushCells (s.heap.push { cls := .type "dict", data := .dict #[] }) scope.names).get? b = some o := fun b o e => pushCells_keeps _ _ _ _ (Heap.get?_push_of_some _ e)
  have hL : cenv.locals = s.heap.objs.size := by rw [← hcenv]; rfl
  have hcl : cenv.cells = cellsFrom (s.heap.objs.size + 1) scope.names (cloFrom X.env.cells scope.names []) := by rw [← hcenv]; rfl
  have hsc : cenv.scope = relS scope X.env.scope := by rw [← hcenv]; rfl
  rw [← Heap.size_push s.heap { cls := .type "dict", data := .dict #[] }] at hcl
  have cm : ∀ {y c}, (y, c) ∈ cloFrom X.env.cells scope.names [] → X.env.cells.lookup y = some c ∧ c < s.heap.objs.size := fun {y c} hm => by
    rcases cloFrom_mem hm with hm | ⟨h1, rfl⟩
    · cases hm
    · obtain ⟨c, hc⟩ := hfree _ h1 rfl
      rw [hc]
      obtain ⟨w, z⟩ := I.cell _ _ hc
      exact ⟨rfl, z.lt⟩
  have mem : ∀ {y c}, cenv.cells.lookup y = some c → (X.env.cells.lookup y = some c ∧ c < s.heap.objs.size) ∨ (s.heap.objs.size + 1 ≤ c ∧ CellAt (pushCells (s.heap.push { cls := .type "dict", data := .dict #[] }) scope.names) c none) := fun {y c} e => by
    rw [hcl] at e
    rcases cells_mem (PySem.mem_of_lookup e) with hm | ⟨_, h2, h3⟩
    · exact .inl (cm hm)
    · rw [Heap.size_push] at h2; exact .inr ⟨h2, h3⟩
  have look : ∀ {y}, scope.names.lookup y = some .free → ∃ c, cenv.cells.lookup y = some c ∧ X.env.cells.lookup y = some c := fun {y} hl => by
    have hy : (y, NameKind.free) ∈ scope.names := PySem.mem_of_lookup hl
    obtain ⟨c', e'⟩ := mem_lookup (cells_acc (names := scope.names) (n := (s.heap.push { cls := .type "dict", data := .dict #[] }).objs.size) (cloFrom_has (cells := X.env.cells) (acc := []) hy))
    rw [← hcl] at e'
    refine ⟨c', e', ?_⟩
    rw [hcl] at e'
    rcases cells_mem (PySem.mem_of_lookup e') with hm | ⟨h1, _, _⟩
    · exact (cm hm).1
    · have := ok.uniq _ h1
      rw [hl] at this; cases this
  have okB : (X.blk s H scope cenv fp).Ok := by
    refine ⟨I.ok.mod, by show cenv.scope.kind = _; rw [hsc]; exact ok.kind, by show cenv.globals = _; rw [← hcenv]; exact I.ok.glob, by show cenv.builtins = _; rw [← hcenv]; exact I.ok.blt, by show s.heap.objs.size ≤ cenv.locals; rw [hL]; exact Nat.le_refl _,
      fun y z c e1 e2 => ?_, fun y hy => ?_, fun y c z e => ?_, I.ok.hd, I.ok.frames, .inl rfl, fun b hb => ⟨?_, fun y c e z => ?_⟩, I.bs, Nat.le_trans I.ok.bsz I.sz, fun b o e hb => ?_, fun b hb z => ?_, I.stack, I.stkFree⟩
    · have e1 : cenv.cells.lookup y = some c := e1
      have e2 : cenv.cells.lookup z = some c := e2
      rw [hcl] at e1 e2
      refine cells_inj (fun p hp => ?_) (fun y z c a b => I.ok.inj y z c (cm a).1 (cm b).1) (PySem.mem_of_lookup e1) (PySem.mem_of_lookup e2)
      rw [Heap.size_push]
      exact Nat.lt_succ_of_lt (cm (y := p.1) (c := p.2) hp).2
    · show ∃ c, cenv.cells.lookup y = some c
      have key : ∀ k, cenv.kindOf y = some k → (k = .cell ∨ k = .free) → ∃ c, cenv.cells.lookup y = some c := fun k hk hk' => by
        unfold Env.kindOf at hk
        rw [hsc] at hk
        obtain ⟨k', e, r⟩ := lookup_relS hk
        have : k' = .cell ∨ k' = .free := by
          rcases r with rfl | ⟨rfl, _⟩
          · exact hk'
          · exact .inr rfl
        rcases this with rfl | rfl
        · obtain ⟨c, hm⟩ := cells_has (n := (s.heap.push { cls := .type "dict", data := .dict #[] }).objs.size) (acc := cloFrom X.env.cells scope.names []) (PySem.mem_of_lookup e)
          obtain ⟨c', e'⟩ := mem_lookup hm
          exact ⟨c', by rw [hcl]; exact e'⟩
        · obtain ⟨c, h1, _⟩ := look e
          exact ⟨c, h1⟩
      rcases hy with hy | hy
      · exact key _ hy (.inl rfl)
      · exact key _ hy (.inr rfl)
    · have z : (scope.names.lookup y == some NameKind.cell) = true := z
      have z : scope.names.lookup y = some .cell := by simpa using z
      have e : cenv.cells.lookup y = some c := e
      rw [hcl] at e
      rcases cells_mem (PySem.mem_of_lookup e) with hm | ⟨_, h2, _⟩
      · rcases cloFrom_mem hm with hm | ⟨h1, _⟩
        · cases hm
        · have q := ok.uniq _ h1
          rw [z] at q; cases q
      · rw [Heap.size_push] at h2
        exact Nat.le_of_succ_le h2
    · show b ≠ cenv.locals
      rw [hL]; exact Nat.ne_of_lt (hfp b hb).2
    · have e : cenv.cells.lookup y = some c := e
      rcases mem e with ⟨h1, _⟩ | ⟨h1, _⟩
      · exact (hfp b hb).1.2.2.2.2.1 y c h1 z
      · have h2 : s.heap.objs.size + 1 ≤ b := by rw [← z]; exact h1
        exact absurd (Nat.lt_of_lt_of_le (hfp b hb).2 (Nat.le_of_succ_le h2)) (Nat.lt_irrefl _)
    · rcases (hfp b hb).1.2.2.2.1 with z | z
      · exact I.ok.noex b o e z
      · exact absurd (Nat.lt_of_lt_of_le (Heap.lt_size e) (Nat.le_trans I.ok.bsz z)) (Nat.lt_irrefl _)
    · rcases List.mem_cons.mp (I.stkSub b z) with z | z
      · exact (hfp b hb).1.2.1 z
      · exact (hfp b hb).1.2.2.1 z
  refine ⟨okB, rfl, I.bare, Un.kept kp, ⟨fun _ => none, ?_, fun i y av e1 e2 e3 => ?_⟩, fun y c e => ?_, ?_, fun y c e => ?_, fun p hp => ?_, I.hok.kept kp, by rw [wipe_length]; exact I.len⟩
  · show Heap.Ns _ cenv.locals _
    rw [hL]
    exact Heap.Ns.keeps (Heap.Ns.new ..) fun b o e => pushCells_keeps _ _ _ _ e
  · obtain ⟨e2, hne⟩ := wipe_some e2
    have hfr : scope.names.lookup y = some .free ∧ (cenv.kindOf y = some .cell ∨ cenv.kindOf y = some .free) := by
      have key : ∀ k, cenv.scope.names.lookup y = some k → k = .local ∨ k = .cell ∨ k = .free → scope.names.lookup y = some .free ∧ (cenv.kindOf y = some .cell ∨ cenv.kindOf y = some .free) := fun k hk hk' => by
        have hk0 := hk
        rw [hsc] at hk
        obtain ⟨k', e, r⟩ := lookup_relS hk
        have no : ¬ (k' = .local ∨ k' = .cell) := fun hh => by
          rcases ok.own _ (PySem.mem_of_lookup e) hh with e' | e'
          · obtain ⟨p, hp, hpy⟩ := List.mem_map.mp e'
            have e3 := ok.ix p hp
            have : p.1 = y := hpy
            rw [this] at e3
            exact hne (List.mem_map.mpr ⟨p, hp, nodup_ix hN e3 e1⟩)
          · exact e' (List.mem_of_getElem? e1)
        rcases r with rfl | ⟨rfl, rfl⟩
        · rcases hk' with rfl | rfl | rfl
          · exact absurd (.inl rfl) no
          · exact absurd (.inr rfl) no
          · exact ⟨e, .inr hk0⟩
        · exact ⟨e, .inl hk0⟩
      have e3 : Vis cenv.scope y := e3
      rcases e3 with e3 | e3 | e3
      · exact key _ e3 (.inl rfl)
      · exact key _ e3 (.inr (.inl rfl))
      · exact key _ e3 (.inr (.inr rfl))
    obtain ⟨m, hn, hl⟩ := I.loc
    have hvis : Vis X.env.scope y := (ok.free _ (PySem.mem_of_lookup hfr.1) rfl).elim (fun k => .inr (.inl k)) (fun k => .inr (.inr k))
    obtain ⟨w, r, q⟩ := hl i y av e1 e2 hvis
    refine ⟨w, r, .inr ⟨hfr.2, ?_⟩⟩
    obtain ⟨c, h1, h2⟩ := look hfr.1
    rcases q with ⟨k, _⟩ | ⟨_, c', e', z⟩
    · have k : X.env.scope.names.lookup y = some .local := k
      rcases ok.free _ (PySem.mem_of_lookup hfr.1) rfl with k' | k' <;> rw [show X.env.scope.names.lookup y = _ from k'] at k <;> cases k
    · rw [h2] at e'; cases e'
      exact ⟨c, h1, z.keeps kp⟩
  · have e : cenv.cells.lookup y = some c := e
    rcases mem e with ⟨h1, _⟩ | ⟨_, z⟩
    · obtain ⟨w, z⟩ := I.cell y c h1
      exact ⟨w, z.keeps kp⟩
    · exact ⟨_, z⟩
  · show H cenv.locals = none
    rw [hL]; exact I.hok.fresh (Nat.le_refl _)
  · have e : cenv.cells.lookup y = some c := e
    rcases mem e with ⟨h1, _⟩ | ⟨h1, _⟩
    · exact I.freeC y c h1
    · exact I.hok.fresh (Nat.le_of_succ_le h1)
  · exact absurd (show p ∈ ([] : List (Addr × Obj)) ++ [] from hp) (by simp)
theorem app_ok {E : Value → Shared → Prop} {D : Addr} {xs : List V} {y : V} {v : Value} {Q : Value → Shared → Prop} (I : Inv X pins σ H s) (hD : H D = some (.lst xs)) (hz : xs.length < sizeLine) (r : RelV y v)
    (h : ∀ s', Inv X pins σ (upd H D (.lst (xs ++ [y]))) s' → Q .none s') : wpAny (model X.prog X.w) X.A (call (.builtin "list.append") [.ref D, v]) Q E s := by
  obtain ⟨hz', its, n, ri, e⟩ := I.hok D _ hD
  have hl := ri.length
  refine append_at (hsz := by rw [List.size_toArray]; omega) e fun h' sb ho' => ?_
  refine h { s with heap := h' } (I.write (t' := s.toks) (by rw [hD]; trivial) (.inl rfl) (fun b u hb q => (sb.2 b hb).trans q) ⟨_, ho'⟩ ⟨by rw [List.length_append]; exact hz, its ++ [v], n + 1, ri.append (.cons r .nil), ?_⟩)
  rw [ho']
  simp
def PTs (X : Cx) (ifs : List Expr) (t : TT) : Prop :=
  ∀ (pins : List (Addr × Obj)) (s : Shared) (σ : St) (H : Hp) (Q : Bool → Hp → Prop), Inv X pins σ H s → t σ H Q →
    wpAny (model X.prog X.w) X.A (forIn ifs true fun c r => if r = true then do let ok ← isTrue c X.env (eval c X.env); pure (ForInStep.yield ok) else pure (ForInStep.yield r)) (TP X pins σ Q) X.xe s
def tYes : TT := fun _ H Q => Q true H
theorem pts_nil : PTs X [] tYes := fun _ _ _ H _ I h => wpAny_tests_nil ⟨H, I, h⟩
theorem pts_one {c : Expr} {t : TT} (h : PT X c t) : PTs X [c] t := fun pins s σ H Q I hw => wpAny_tests_one (h pins s σ H Q I hw)
end
theorem thnF {α : Type} {t : Sem α} {Q Q' : α → Shared → Prop} {M : Model} {A : Around} {E : Value → Shared → Prop} {s : Shared} (h : wpAny M A t Q (fun _ _ => False) s) (hQ : ∀ a s, Q a s → Q' a s) : wpAny M A t Q' E s := wpAny_mono h hQ fun _ _ z => False.elim z
theorem compLoop_any {prog : Program} {w : World} {A : Around} {R : Result → Shared → Prop} {s : Shared} {elt target iter : Expr} {ifs : List Expr} {scope : Scope} {pos : Pos} {it acc : Value} {env : Env} (I : Nat → Shared → Prop)
    (turn : ∀ n s, I n s → wpAny (model prog w) A (pyNext it) (fun r s₁ => match r with
      | none => R (.ok .next) s₁
      | some v => wpAny (model prog w) A (letOwnedTupleGo target it v) (fun _ s₁' => wpAny (model prog w) A (assign target env v) (fun _ s₂ =>
          wpAny (model prog w) A (forIn ifs true fun c r => if r = true then do let ok ← isTrue c env (eval c env); pure (ForInStep.yield ok) else pure (ForInStep.yield r)) (fun ok s₃ =>
            if ok = true then wpAny (model prog w) A (eval elt env) (fun x s₄ =>
              wpAny (model prog w) A (call (.builtin "list.append") [acc, x]) (fun _ s₅ => ∃ m, m < n ∧ I m s₅) (notedBy (model prog w) A env fun e s' => R (.error e) s') s₄) (notedBy (model prog w) A env fun e s' => R (.error e) s') s₃
            else ∃ m, m < n ∧ I m s₃) (notedBy (model prog w) A env fun e s' => R (.error e) s') s₂) (notedBy (model prog w) A env fun e s' => R (.error e) s') s₁') (notedBy (model prog w) A env fun e s' => R (.error e) s') s₁) (notedBy (model prog w) A env fun e s' => R (.error e) s') s)
    (n : Nat) (h : I n s) :
    codeAny (model prog w) A (.compLoop (.ListComp elt [⟨target, iter, ifs, 0⟩] scope pos) 0 it acc env) R s := by
  refine codeAny_loop rfl I (fun n s hI => ?_) n h
  show wpAny _ A ((compTurn (.ListComp elt [⟨target, iter, ifs, 0⟩] scope pos) 0 it acc env).onRaise (fun x => do noteFrame x env; theTreesLotGoes x)) _ _ s
  refine wpAny_noted ?_
  rw [compTurn_list]
  refine wpAny_bind (wpAny_standAt (wpAny_bind (wpAny_mono (turn n s hI) (fun r s₁ h₁ => ?_) fun _ _ h' => h')))
  cases r with
  | none => exact wpAny_pure h₁
  | some v =>
    refine wpAny_bind (wpAny_mono h₁ (fun _ s₁' h₁' => ?_) fun _ _ h' => h')
    refine wpAny_bind (wpAny_mono h₁' (fun _ s₂ h₂ => wpAny_bind (wpAny_mono h₂ (fun ok s₃ h₃ => ?_) fun _ _ h' => h')) fun _ _ h' => h')
    cases ok with
    | false => exact wpAny_pure ⟨rfl, h₃⟩
    | true =>
      exact wpAny_bind (wpAny_bind (wpAny_mono h₃ (fun x s₄ h₄ => wpAny_bind (wpAny_mono h₄ (fun _ s₅ h₅ => wpAny_pure (wpAny_pure ⟨rfl, h₅⟩)) fun _ _ h' => h')) fun _ _ h' => h'))
section
variable {X : Cx}
def tLc (wi : TI) (g : TG) (tt : TT) (te : TE) (vs : List Nat) : TE := fun σ H Q => wi σ H fun J H1 => ∀ D, H1 D = none → ∃ W : Nat → Nat → Hp → Prop, (∃ m, W 0 m (upd H1 D (.lst []))) ∧ ∀ i m H, W i m H →
  (J.stop i H ∧ Q (.ref D) H) ∨ (J.go i H ∧ ∃ Nx : Hp → Prop, (∀ H', Nx H' → ∃ m', m' < m ∧ W (i + 1) m' H') ∧ ∀ x H', J.yld i H x H' → g x (wipe σ vs) H' fun σ2 H2 => wipe σ2 vs = wipe σ vs ∧ tt σ2 H2 fun b H3 =>
    if b = true then te σ2 H3 fun y H4 => ∃ acc, H4 D = some (.lst acc) ∧ acc.length < sizeLine ∧ Nx (upd H4 D (.lst (acc ++ [y]))) else Nx H3)
theorem lc_core {pins : List (Addr × Obj)} {s : Shared} {σ : St} {H : Hp} {Q : VK} {elt tg iter : Expr} {ifs : List Expr} {scope : Scope} {own : List (Str × Nat)} {pos pos' : Pos} {wi : TI} {g : TG} {tt : TT} {te : TE} {use : Option (Value → Sem Unit)} {Qf : Value → Shared → Prop}
    (hc : X.calm = true) (hN : X.N.Nodup) (I : Inv X pins σ H s) (hi : PI X tg iter wi) (ok : BlkOk X.N X.env.scope scope own)
    (hg : ∀ (s : Shared) (H : Hp) (C : Addr) (cl : List (Str × Addr)) (fp : List Addr), PG (X.blk s H scope (compEnvC scope cl C X.env) fp) tg g) (ht : ∀ (s : Shared) (H : Hp) (C : Addr) (cl : List (Str × Addr)) (fp : List Addr), PTs (X.blk s H scope (compEnvC scope cl C X.env) fp) ifs tt)
    (he : ∀ (s : Shared) (H : Hp) (C : Addr) (cl : List (Str × Addr)) (fp : List Addr), PE (X.blk s H scope (compEnvC scope cl C X.env) fp) elt te) (hs : ∀ x, foldedSetIterable iter X.env x = pure x)
    (h : tLc wi g tt te (own.map (·.2)) σ H Q)
    (hRR : ∀ D C s' m H', Inv X pins σ H' s' → Q (.ref D) H' → s'.heap.Ns C m → FpOk X pins H' C → compPost (model X.prog X.w) X.A X.xe use Qf (.ref D) C (.ok .next) s') :
    wpAny (model X.prog X.w) X.A (comprehension (.ListComp elt [⟨tg, iter, ifs, 0⟩] scope pos) scope X.env pos' (newList []) false (eval iter X.env) use) Qf X.xe s := by
  have hfree : ∀ y ∈ scope.names, y.2 = .free → ∃ c, X.env.cells.lookup y.1 = some c := fun y hy e => by
    rcases ok.free y hy e with k | k
    · exact I.ok.has _ (.inl k)
    · exact I.ok.has _ (.inr k)
  refine wpAny_comprehension_free (use := use) rfl hs (closure_ok hfree) ok.kind (fun y hy e => by rw [ok.uniq y hy, e])
    (thn (hi pins s σ H _ I h) fun xv s1 hx => thn hx fun itv s2 h2 => ?_)
  obtain ⟨it, fp, tn, J, H2, e, I2, T, st2, f2, q⟩ := h2
  subst e
  refine wpAny_newObj_type (newEnv_comp ?_) (by show 0 ≤ sizeLine; decide)
  generalize hD : s2.heap.objs.size = D
  have hDn : H2 D = none := I2.hok.fresh (Nat.le_of_eq hD)
  obtain ⟨W, ⟨m0, w0⟩, turn⟩ := q D hDn
  generalize hs3 : ({ s2 with heap := s2.heap.push { cls := .type "list", data := .seq ([] : List Value).toArray } } : Shared) = s3
  have I3 : Inv X pins σ (upd H2 D (.lst [])) s3 := by
    rw [← hs3]
    refine I2.laid (t' := s2.toks) (fun b o e => Heap.get?_push_of_some _ e) (Nat.le_of_eq hD) ⟨Nat.zero_le _, [], 0, .nil, ?_⟩
    rw [← hD]
    exact Heap.get?_push_size _ rfl
  have h3 : s3.heap = s2.heap.push { cls := .type "list", data := .seq ([] : List Value).toArray } := by rw [← hs3]
  have sz : ∀ b ∈ fp, b < s2.heap.objs.size := fun b hb => by
    obtain ⟨o, e, _⟩ := T.obj _ _ st2 b hb
    exact Heap.lt_size e
  have f3 : ∀ b ∈ fp, FpOk X pins (upd H2 D (.lst [])) b ∧ b < s3.heap.objs.size := fun b hb => by
    have hlt := sz b hb
    refine ⟨⟨?_, (f2 b hb).2⟩, by rw [h3, Heap.size_push]; exact Nat.lt_succ_of_lt hlt⟩
    rw [upd_ne (by rw [← hD]; exact Nat.ne_of_lt hlt)]
    exact (f2 b hb).1
  have st3 : tn 0 s3.heap := T.keep _ _ _ st2 fun b _ o e => by rw [h3]; exact Heap.get?_push_of_some _ e
  have I4 := block_start I3 ok hN f3
  have pg := hg s3 (upd H2 D (.lst [])) s3.heap.objs.size (cellsFrom (s3.heap.objs.size + 1) scope.names (cloFrom X.env.cells scope.names [])) fp
  have pt := ht s3 (upd H2 D (.lst [])) s3.heap.objs.size (cellsFrom (s3.heap.objs.size + 1) scope.names (cloFrom X.env.cells scope.names [])) fp
  have pe := he s3 (upd H2 D (.lst [])) s3.heap.objs.size (cellsFrom (s3.heap.objs.size + 1) scope.names (cloFrom X.env.cells scope.names [])) fp
  show codeAny _ _ (.compStart (.ListComp elt [⟨tg, iter, ifs, 0⟩] scope pos) 0 (.ref it) (.ref D) (compEnvC scope (cellsFrom (s3.heap.objs.size + 1) scope.names (cloFrom X.env.cells scope.names [])) s3.heap.objs.size X.env)) (compPost (model X.prog X.w) X.A X.xe use Qf (.ref D) s3.heap.objs.size) { s3 with heap := pushCells (s3.heap.push { cls := .type "dict", data := .dict #[] }) scope.names }
  have nfp : ∀ b ∈ fp, (upd H2 D (.lst [])) b = none := fun b hb => (f3 b hb).1.1
  generalize hce : compEnvC scope (cellsFrom (s3.heap.objs.size + 1) scope.names (cloFrom X.env.cells scope.names [])) s3.heap.objs.size X.env = ce at I4 pg pt pe ⊢
  have cL : ce.locals = s3.heap.objs.size := by subst hce; rfl
  generalize hH3 : upd H2 D (.lst []) = H3 at I3 I4 pg pt pe w0 nfp f3
  generalize hs4 : ({ s3 with heap := pushCells (s3.heap.push { cls := .type "dict", data := .dict #[] }) scope.names } : Shared) = s4 at I4 ⊢
  have st4 : tn 0 s4.heap := T.keep _ _ _ st3 fun b _ o e => by rw [← hs4]; exact pushCells_keeps _ _ _ _ (Heap.get?_push_of_some _ e)
  have stat : ∀ {σ' : St} {H' : Hp} {s' : Shared}, Inv (X.blk s3 H3 scope ce fp) [] σ' H' s' → (∀ b ∈ fp, H' b = none) → ∀ b ∈ fp, FpOk (X.blk s3 H3 scope ce fp) [] H' b := fun {σ' H' s'} I' hn b hb =>
    ⟨hn b hb, (I'.ok.exf b hb).1, I'.ok.exfs b hb, .inl hb, fun x c e => (I'.ok.exf b hb).2 x c e, fun p hp => absurd (show p ∈ ([] : List (Addr × Obj)) ++ [] from hp) (by simp)⟩
  have loop : codeAny (model X.prog X.w) X.A (.compLoop (.ListComp elt [⟨tg, iter, ifs, 0⟩] scope pos) 0 (.ref it) (.ref D) ce) (compPost (model X.prog X.w) X.A X.xe use Qf (.ref D) s3.heap.objs.size) s4 := by
    refine compLoop_any (fun n s' => ∃ i H', Inv (X.blk s3 H3 scope ce fp) [] (wipe σ (own.map (·.2))) H' s' ∧ tn i s'.heap ∧ (∀ b ∈ fp, H' b = none) ∧ W i n H') ?_ m0 ⟨0, H3, I4, st4, nfp, w0⟩
    rintro n s5 ⟨i, H5, I5, st5, n5, w5⟩
    rcases turn i n H5 w5 with ⟨stop, qq⟩ | ⟨go, Nx, hNx, step⟩
    · have td := T.done (X.blk s3 H3 scope ce fp) rfl rfl rfl hc i [] s5 _ H5 (fun _ _ => False) I5 (stat I5 n5) st5 stop
      refine thnF td fun r s6 ⟨hr, I6⟩ => ?_
      subst hr
      have I7 : Inv X pins σ H5 s6 := I3.call' (ch := fp) I6.os I6.base I6.hok I6.bare fun b hb => ⟨(f3 b hb).1.2.2.2.1, (f3 b hb).1.2.1, (f3 b hb).1.2.2.2.2.1, (f3 b hb).1.2.2.2.2.2⟩
      have nC : H5 s3.heap.objs.size = none := by
        have z : H5 ce.locals = none := I6.free
        rw [cL] at z
        exact z
      obtain ⟨m, hn, _⟩ := I6.loc
      have hn : s6.heap.Ns ce.locals m := hn
      rw [cL] at hn
      exact hRR D s3.heap.objs.size s6 m H5 I7 qq hn (I3.fpOk (Nat.le_refl _) nC)
    · have ti := T.item (X.blk s3 H3 scope ce fp) rfl rfl rfl hc i [] s5 _ H5 (fun _ _ => False) I5 (stat I5 n5) st5 go
      refine thnF ti fun r s6 ⟨u, hr, h6⟩ => ?_
      subst hr
      refine thnF h6 fun _ s7 ⟨x, H7, I7, r7, y7, st7, n7⟩ => ?_
      have I7' := I7.pinned (stat I7 n7) (T.obj _ _ st7)
      refine thnF (pg _ s7 _ H7 x u _ I7' r7 (step x H7 y7)) fun _ s8 ⟨σ8, H8, I8, hw8, q8⟩ => ?_
      refine thnF (pt _ s8 σ8 H8 _ I8 q8) fun b s9 ⟨H9, I9, q9⟩ => ?_
      have fin : ∀ {s' : Shared} {H' : Hp}, Inv (X.blk s3 H3 scope ce fp) ([] ++ pinsAt fp s7.heap) σ8 H' s' → Nx H' → ∃ m, m < n ∧ ∃ i H', Inv (X.blk s3 H3 scope ce fp) [] (wipe σ (own.map (·.2))) H' s' ∧ tn i s'.heap ∧ (∀ b ∈ fp, H' b = none) ∧ W i m H' := fun {s' H'} I' nx => by
        obtain ⟨m', hm, w'⟩ := hNx H' nx
        have pin' : ∀ b ∈ fp, ∀ o, s7.heap.get? b = some o → s'.heap.get? b = some o ∧ H' b = none := fun b hb o e =>
          let z := I'.pin (b, o) (List.mem_append_right _ (List.mem_append_right _ (mem_pinsAt hb e)))
          ⟨z.1, z.2.1⟩
        have hl : (wipe σ (own.map (·.2))).length = σ8.length := by rw [← hw8, wipe_length]
        refine ⟨m', hm, i + 1, H', (I'.unpinned (pins := [])).weak hl (fun j v e => ?_), T.keep _ _ _ st7 fun b hb o e => (pin' b hb o e).1, fun b hb => ?_, w'⟩
        · rw [← hw8] at e
          exact (wipe_some e).1
        · obtain ⟨o, e, _⟩ := T.obj _ _ st7 b hb
          exact (pin' b hb o e).2
      cases b with
      | false =>
        simp only [Bool.false_eq_true, if_false] at q9 ⊢
        exact fin I9 q9
      | true =>
        simp only [if_true] at q9 ⊢
        refine thnF (pe _ s9 σ8 H9 _ I9 q9) fun z s10 ⟨yv, H10, I10, r10, acc, hD10, hz10, nx⟩ => ?_
        exact app_ok (X := X.blk s3 H3 scope ce fp) I10 hD10 hz10 r10 fun s11 I11 => fin I11 nx
  exact codeAny_compStart_list loop (T.self X.A 0 _ _ _ st4 loop)
theorem pe_lc {elt tg iter : Expr} {ifs : List Expr} {scope : Scope} {own : List (Str × Nat)} {pos : Pos} {wi : TI} {g : TG} {tt : TT} {te : TE} (hc : X.calm = true) (hN : X.N.Nodup) (hi : PI X tg iter wi) (ok : BlkOk X.N X.env.scope scope own)
    (hg : ∀ (s : Shared) (H : Hp) (C : Addr) (cl : List (Str × Addr)) (fp : List Addr), PG (X.blk s H scope (compEnvC scope cl C X.env) fp) tg g) (ht : ∀ (s : Shared) (H : Hp) (C : Addr) (cl : List (Str × Addr)) (fp : List Addr), PTs (X.blk s H scope (compEnvC scope cl C X.env) fp) ifs tt)
    (he : ∀ (s : Shared) (H : Hp) (C : Addr) (cl : List (Str × Addr)) (fp : List Addr), PE (X.blk s H scope (compEnvC scope cl C X.env) fp) elt te) (hs : ∀ x, foldedSetIterable iter X.env x = pure x := by intro _; rfl) :
    PE X (.ListComp elt [⟨tg, iter, ifs, 0⟩] scope pos) (tLc wi g tt te (own.map (·.2))) := by
  intro pins s σ H Q I h
  rw [eval_ListComp]
  refine lc_core hc hN I hi ok hg ht he hs h fun D C s' m H' I' q hn f => ⟨m, hn, fun h'' sb => ?_⟩
  obtain ⟨f0, f1, f2, f3, f4, f5⟩ := f
  exact ⟨.ref D, H', I'.turned (t' := s'.toks) (fun b o hb e => (sb.2 b hb).trans e) f0 f1 f3 f4 f5, rfl, q⟩
end
theorem lc_range {lo : Int} {n : Nat} {g : TG} {tt : TT} {te : TE} {vs : List Nat} {σ : St} {H1 : Hp} {D : Addr} {Qd : Hp → Prop} (Pv : Nat → Hp → Prop) (h0 : Pv 0 (upd H1 D (.lst [])))
    (hs : ∀ i H, i < n → Pv i H → g (.int (lo + i)) (wipe σ vs) H fun σ2 H2 => wipe σ2 vs = wipe σ vs ∧ tt σ2 H2 fun b H3 =>
      if b = true then te σ2 H3 fun y H4 => ∃ acc, H4 D = some (.lst acc) ∧ acc.length < sizeLine ∧ Pv (i + 1) (upd H4 D (.lst (acc ++ [y]))) else Pv (i + 1) H3) (hd : ∀ H, Pv n H → Qd H) :
    ∃ W : Nat → Nat → Hp → Prop, (∃ m, W 0 m (upd H1 D (.lst []))) ∧ ∀ i m H, W i m H →
      ((Itr lo n).stop i H ∧ Qd H) ∨ ((Itr lo n).go i H ∧ ∃ Nx : Hp → Prop, (∀ H', Nx H' → ∃ m', m' < m ∧ W (i + 1) m' H') ∧ ∀ x H', (Itr lo n).yld i H x H' → g x (wipe σ vs) H' fun σ2 H2 => wipe σ2 vs = wipe σ vs ∧ tt σ2 H2 fun b H3 =>
        if b = true then te σ2 H3 fun y H4 => ∃ acc, H4 D = some (.lst acc) ∧ acc.length < sizeLine ∧ Nx (upd H4 D (.lst (acc ++ [y]))) else Nx H3) := by
  refine ⟨fun i m H => m = n - i ∧ i ≤ n ∧ Pv i H, ⟨n, by simp, Nat.zero_le _, h0⟩, ?_⟩
  rintro i m H ⟨rfl, hi, p⟩
  by_cases hlt : i < n
  · refine .inr ⟨hlt, Pv (i + 1), fun H' p' => ⟨n - (i + 1), by omega, rfl, hlt, p'⟩, fun x H' y => ?_⟩
    obtain ⟨e, y⟩ := y
    subst e y
    exact hs i _ hlt p
  · have e : i = n := by omega
    subst e
    exact .inl ⟨Nat.le_refl _, hd H p⟩
theorem lc_list {K : PySem.W.Frag} {a : Addr} {xs : List V} {g : TG} {tt : TT} {te : TE} {vs : List Nat} {σ : St} {H1 : Hp} {D : Addr} {Qd : Hp → Prop} (Pv : Nat → Hp → Prop) (h0 : Pv 0 (upd H1 D (.lst []))) (hl : ∀ i H, i ≤ xs.length → Pv i H → SqL K H a xs)
    (hs : ∀ i x H, xs[i]? = some x → Pv i H → g x (wipe σ vs) H fun σ2 H2 => wipe σ2 vs = wipe σ vs ∧ tt σ2 H2 fun b H3 =>
      if b = true then te σ2 H3 fun y H4 => ∃ acc, H4 D = some (.lst acc) ∧ acc.length < sizeLine ∧ Pv (i + 1) (upd H4 D (.lst (acc ++ [y]))) else Pv (i + 1) H3) (hd : ∀ H, Pv xs.length H → Qd H) :
    ∃ W : Nat → Nat → Hp → Prop, (∃ m, W 0 m (upd H1 D (.lst []))) ∧ ∀ i m H, W i m H →
      ((Itl K a).stop i H ∧ Qd H) ∨ ((Itl K a).go i H ∧ ∃ Nx : Hp → Prop, (∀ H', Nx H' → ∃ m', m' < m ∧ W (i + 1) m' H') ∧ ∀ x H', (Itl K a).yld i H x H' → g x (wipe σ vs) H' fun σ2 H2 => wipe σ2 vs = wipe σ vs ∧ tt σ2 H2 fun b H3 =>
        if b = true then te σ2 H3 fun y H4 => ∃ acc, H4 D = some (.lst acc) ∧ acc.length < sizeLine ∧ Nx (upd H4 D (.lst (acc ++ [y]))) else Nx H3) := by
  refine ⟨fun i m H => m = xs.length - i ∧ i ≤ xs.length ∧ Pv i H, ⟨xs.length, by simp, Nat.zero_le _, h0⟩, ?_⟩
  rintro i m H ⟨rfl, hi, p⟩
  have q := hl i H hi p
  by_cases hlt : i < xs.length
  · refine .inr ⟨⟨xs, xs[i], q, by simp [hlt]⟩, Pv (i + 1), fun H' p' => ⟨xs.length - (i + 1), by omega, rfl, hlt, p'⟩, fun x H' y => ?_⟩
    obtain ⟨e, y⟩ := y
    subst e
    exact hs i x _ (y xs q) p
  · have e : i = xs.length := by omega
    subst e
    exact .inl ⟨⟨xs, q, Nat.le_refl _⟩, hd H p⟩
def blkC (N : List Str) (sc scope : Scope) (own : List (Str × Nat)) : Bool :=
  (match scope.kind with | .function => true | _ => false) && (scope.names.all fun y => decide (scope.names.lookup y.1 = some y.2)) && (own.all fun p => decide (N[p.2]? = some p.1)) &&
    (scope.names.all fun y => match y.2 with
      | .free => (match sc.names.lookup y.1 with | some .cell => true | some .free => true | _ => false)
      | .local => decide (y.1 ∈ own.map (·.1)) || decide (y.1 ∉ N)
      | .cell => decide (y.1 ∈ own.map (·.1)) || decide (y.1 ∉ N)
      | _ => true)
theorem blkOk_by {N : List Str} {sc scope : Scope} {own : List (Str × Nat)} (h : blkC N sc scope own = true) : BlkOk N sc scope own := by
  unfold blkC at h
  simp only [Bool.and_eq_true, List.all_eq_true, decide_eq_true_eq] at h
  obtain ⟨⟨⟨h1, h2⟩, h3⟩, h4⟩ := h
  refine ⟨?_, h2, h3, fun y hy e => ?_, fun y hy e => ?_⟩
  · split at h1
    · assumption
    · cases h1
  · have q := h4 y hy
    simp only [e] at q
    split at q <;> first | exact .inl (by assumption) | exact .inr (by assumption) | cases q
  · have q := h4 y hy
    rcases e with e | e <;> (simp only [e, Bool.or_eq_true, decide_eq_true_eq] at q; exact q)
end L2
namespace L2
open PySem PySem.Spec PyProof.Rows
section
variable {prog : Program} {w : World} {A : Around} {R : Result → Shared → Prop} {s : Shared} {elt t0 i0 t1 i1 : Expr} {ifs0 ifs1 : List Expr} {scope : Scope} {pos : Pos} {it acc : Value} {env : Env}
end
section
variable {X : Cx}
end
end L2
namespace L2
open PySem PySem.Spec PyProof.Rows
section
variable {κ : Type} [DecidableEq κ]
def valV (kvs : List (κ × V)) (k : κ) : Option V := (kvs.find? fun kv => decide (kv.1 = k)).map (·.2)
def putK (kvs : List (κ × V)) (k : κ) (v : V) : List (κ × V) :=
  if (kvs.any fun kv => decide (kv.1 = k)) = true then kvs.map (fun kv => if kv.1 = k then (kv.1, v) else kv) else kvs ++ [(k, v)]
def dropK (kvs : List (κ × V)) (k : κ) : List (κ × V) := kvs.filter fun kv => decide (kv.1 ≠ k)
theorem valV_pos {p : κ × V} {r : List (κ × V)} {k : κ} (e : p.1 = k) : valV (p :: r) k = some p.2 := by simp [valV, List.find?_cons, e]
theorem valV_neg {p : κ × V} {r : List (κ × V)} {k : κ} (e : ¬ p.1 = k) : valV (p :: r) k = valV r k := by simp [valV, List.find?_cons, e]
theorem valV_any (k : κ) : ∀ kvs : List (κ × V), (kvs.any fun kv => decide (kv.1 = k)) = (valV kvs k).isSome
  | [] => rfl
  | p :: r => by
    rw [List.any_cons]
    by_cases e : p.1 = k
    · simp only [valV_pos e, decide_eq_true e, Bool.true_or, Option.isSome_some]
    · rw [valV_neg e, decide_eq_false e, Bool.false_or]; exact valV_any k r
theorem length_putK (kvs : List (κ × V)) (k : κ) (v : V) : (putK kvs k v).length ≤ kvs.length + 1 := by
  unfold putK
  split
  · rw [List.length_map]; omega
  · rw [List.length_append, List.length_cons, List.length_nil]; omega
theorem putK_new {kvs : List (κ × V)} {k : κ} (v : V) (h : valV kvs k = none) : putK kvs k v = kvs ++ [(k, v)] := by
  unfold putK
  rw [valV_any, h]
  exact if_neg (by decide)
theorem RelO.isSome_eq {o : Option V} {u : Option Value} (r : RelO o u) : o.isSome = u.isSome := by
  cases o with
  | none => cases u with
    | none => rfl
    | some _ => exact (show False from r).elim
  | some _ => cases u with
    | none => exact (show False from r).elim
    | some _ => rfl
theorem RelO.getD {o : Option V} {u : Option Value} {d : V} {d' : Value} (r : RelO o u) (rd : RelV d d') : RelV (o.getD d) (u.getD d') := by
  cases o with
  | none => cases u with
    | none => exact rd
    | some _ => exact (show False from r).elim
  | some _ => cases u with
    | none => exact (show False from r).elim
    | some _ => exact r
theorem KV.val {kvs : List (κ × V)} {vs : List (κ × Value)} (r : KV kvs vs) (k : κ) : RelO (valV kvs k) (valueAt vs k) := by
  unfold KV at r
  induction r with
  | nil => exact True.intro
  | @cons p q ps qs h t ih =>
    obtain ⟨h1, h2⟩ := h
    by_cases e : p.1 = k
    · have e' : q.1 = k := h1.symm.trans e
      have b : valueAt (q :: qs) k = some q.2 := by simp [valueAt, List.find?_cons, e']
      rw [valV_pos e, b]; exact h2
    · have e' : ¬ q.1 = k := fun z => e (h1.trans z)
      have b : valueAt (q :: qs) k = valueAt qs k := by simp [valueAt, List.find?_cons, e']
      rw [valV_neg e, b]; exact ih
theorem KV.any {kvs : List (κ × V)} {vs : List (κ × Value)} (r : KV kvs vs) (k : κ) : (kvs.any fun kv => decide (kv.1 = k)) = vs.any fun kv => decide (kv.1 = k) := by
  unfold KV at r
  induction r with
  | nil => rfl
  | cons h t ih => rw [List.any_cons, List.any_cons, ih, h.1]
theorem KV.repl {kvs : List (κ × V)} {vs : List (κ × Value)} (r : KV kvs vs) (k : κ) {y : V} {u : Value} (ry : RelV y u) :
    KV (kvs.map fun kv => if kv.1 = k then (kv.1, y) else kv) (vs.map fun kv => if kv.1 = k then (kv.1, u) else kv) := by
  unfold KV at r ⊢
  induction r with
  | nil => exact .nil
  | @cons p q ps qs h t ih =>
    rw [List.map_cons, List.map_cons]
    refine .cons ?_ ih
    obtain ⟨h1, h2⟩ := h
    by_cases e : p.1 = k
    · rw [if_pos e, if_pos (h1.symm.trans e)]; exact ⟨h1, ry⟩
    · rw [if_neg e, if_neg (fun z => e (h1.trans z))]; exact ⟨h1, h2⟩
theorem KV.put {kvs : List (κ × V)} {vs : List (κ × Value)} (r : KV kvs vs) (k : κ) {y : V} {u : Value} (ry : RelV y u) : KV (putK kvs k y) (stored vs k u) := by
  unfold putK stored
  rw [r.any k]
  by_cases e : (vs.any fun kv => decide (kv.1 = k)) = true
  · rw [if_pos e, if_pos e]; exact r.repl k ry
  · rw [if_neg e, if_neg e]; exact Paired.snoc r ⟨rfl, ry⟩
theorem KV.drop {kvs : List (κ × V)} {vs : List (κ × Value)} (r : KV kvs vs) (k : κ) : KV (dropK kvs k) (without vs k) := by
  unfold KV at r ⊢
  unfold dropK without
  induction r with
  | nil => exact .nil
  | @cons p q ps qs h t ih =>
    obtain ⟨h1, h2⟩ := h
    rw [List.filter_cons, List.filter_cons]
    by_cases e : p.1 = k
    · have a : ¬ decide (p.1 ≠ k) = true := by simp [e]
      have b : ¬ decide (q.1 ≠ k) = true := by simp [h1.symm.trans e]
      rw [if_neg a, if_neg b]; exact ih
    · have e' : ¬ q.1 = k := fun z => e (h1.trans z)
      have a : decide (p.1 ≠ k) = true := by simp [e]
      have b : decide (q.1 ≠ k) = true := by simp [e']
      rw [if_pos a, if_pos b]; exact .cons ⟨h1, h2⟩ ih
theorem KV.length {kvs : List (κ × V)} {vs : List (κ × Value)} (r : KV kvs vs) : kvs.length = vs.length := Paired.length r
theorem dropK_le (kvs : List (κ × V)) (k : κ) : (dropK kvs k).length ≤ kvs.length := List.length_filter_le _ _
end
theorem kV_is {P : Program} {w : World} {k : Key} {u : Value} (r : RelV (kV k) u) : (mixKind P w).is k u = true := by
  cases k with
  | inl i => obtain ⟨t, e⟩ := (show ∃ t, u = Value.int i t from r); subst e; exact mixKind_int P w i t
  | inr x => obtain ⟨t, e⟩ := (show ∃ t, u = Value.str x t from r); subst e; exact mixKind_str P w x t
theorem items_are {P : Program} {w : World} : ∀ {ks : List Key} {us : List Value}, Vals (ks.map kV) us → ItemsAre (mixKind P w) ks us
  | [], _, r => by rw [List.map_nil] at r; cases r; exact .nil
  | k :: ks, _, r => by
    rw [List.map_cons] at r
    cases r with
    | cons h t => exact .cons (kV_is h) (items_are t)
abbrev KT (H : Hp) : List (List Key × V) → List (List Key × Addr × Value) → Prop := Paired fun p q => p.1 = q.1 ∧ H q.2.1 = some (.tup (p.1.map kV)) ∧ RelV p.2 q.2.2
theorem KT.val {H : Hp} {kvs : List (List Key × V)} {xs : List (List Key × Addr × Value)} (r : KT H kvs xs) (k : List Key) : RelO (valV kvs k) ((atKey xs k).map (·.2)) := by
  induction r with
  | nil => exact True.intro
  | @cons p q ps qs h t ih =>
    obtain ⟨h1, _, h2⟩ := h
    by_cases e : p.1 = k
    · have e' : q.1 = k := h1.symm.trans e
      have b : atKey (q :: qs) k = some q.2 := by simp [atKey, List.find?_cons, e']
      rw [valV_pos e, b]; exact h2
    · have e' : ¬ q.1 = k := fun z => e (h1.trans z)
      have b : atKey (q :: qs) k = atKey qs k := by simp [atKey, List.find?_cons, e']
      rw [valV_neg e, b]; exact ih
theorem KT.repl {H : Hp} {kvs : List (List Key × V)} {xs : List (List Key × Addr × Value)} (r : KT H kvs xs) (k : List Key) {y : V} {u : Value} (ry : RelV y u) :
    KT H (kvs.map fun kv => if kv.1 = k then (kv.1, y) else kv) (xs.map (putAt k u)) := by
  induction r with
  | nil => exact .nil
  | @cons p q ps qs h t ih =>
    rw [List.map_cons, List.map_cons]
    refine .cons ?_ ih
    obtain ⟨h1, h2, h3⟩ := h
    unfold putAt
    by_cases e : p.1 = k
    · rw [if_pos e, if_pos (h1.symm.trans e)]; exact ⟨h1, h2, ry⟩
    · rw [if_neg e, if_neg (fun z => e (h1.trans z))]; exact ⟨h1, h2, h3⟩
theorem KT.put {H : Hp} {kvs : List (List Key × V)} {xs : List (List Key × Addr × Value)} (r : KT H kvs xs) (k : List Key) {b : Addr} {y : V} {u : Value} (hb : H b = some (.tup (k.map kV))) (ry : RelV y u) :
    KT H (putK kvs k y) (storedH xs k b u) := by
  have e : (kvs.any fun kv => decide (kv.1 = k)) = (atKey xs k).isSome := by
    rw [valV_any, (r.val k).isSome_eq, Option.isSome_map]
  unfold putK storedH
  rw [e]
  by_cases q : (atKey xs k).isSome = true
  · rw [if_pos q, if_pos q]; exact r.repl k ry
  · rw [if_neg q, if_neg q]; exact Paired.snoc r ⟨rfl, hb, ry⟩
theorem KT.keeps {H H' : Hp} {kvs : List (List Key × V)} {xs : List (List Key × Addr × Value)} (r : KT H kvs xs) (ht : ∀ b ys, H b = some (.tup ys) → H' b = some (.tup ys)) : KT H' kvs xs :=
  Paired.mapP r fun _ _ z => ⟨z.1, ht _ _ z.2.1, z.2.2⟩
section
variable {P : Program} {w : World} {H : Hp} {h : Heap} {a : Addr}
theorem rd_of {u : HO} (ok : HOk P w H h) (e : Rd H a u) : ObjOk P w H h a u := e.ok ok
theorem dk_rd {kvs : List (Key × V)} (ok : HOk P w H h) (e : Rd H a (.dK kvs)) : kvs.length ≤ sizeLine ∧ (a == sysModules) = false ∧ ∃ vs, KV kvs vs ∧ h.DictOf (mixKind P w) a vs :=
  show ObjOk P w H h a (.dK kvs) from rd_of ok e
theorem dk_of {kvs : List (Key × V)} (ok : HOk P w H h) (e : H a = some (.dK kvs)) : kvs.length ≤ sizeLine ∧ (a == sysModules) = false ∧ ∃ vs, KV kvs vs ∧ h.DictOf (mixKind P w) a vs := dk_rd ok (.inl e)
theorem key_of {ks : List Key} (ok : HOk P w H h) (e : H a = some (.tup (ks.map kV))) : (tupleKind (mixKind P w)).is h ks a := by
  obtain ⟨_, its, r, o, h1, h2, n, h3⟩ := (show ObjOk P w H h a (.tup (ks.map kV)) from ok a _ e)
  exact ⟨o, its.toArray, n, h1, h2, h3, by simpa using items_are r⟩
theorem dt_rd {kvs : List (List Key × V)} (ok : HOk P w H h) (e : Rd H a (.dT kvs)) : kvs.length ≤ sizeLine ∧ (a == sysModules) = false ∧
    ∃ xs, KT H kvs xs ∧ h.DictOfH (tupleKind (mixKind P w)) a xs := by
  obtain ⟨z, y, xs, r, o, es, ep, h1, h2, h3, h4, h5⟩ := (show ObjOk P w H h a (.dT kvs) from rd_of ok e)
  refine ⟨z, y, xs, r, o, es, ep, h1, h2, h3, h4, fun x hx => ?_, h5⟩
  have all : ∀ {l : List (List Key × V)} {m : List (List Key × Addr × Value)}, KT H l m → ∀ x ∈ m, (tupleKind (mixKind P w)).is h x.1 x.2.1 := by
    intro l m q
    induction q with
    | nil => intro x hx; exact nomatch hx
    | @cons p q ps qs hq t ih =>
      intro x hx
      rcases List.mem_cons.mp hx with e | hx
      · subst e
        exact key_of ok (by rw [← hq.1]; exact hq.2.1)
      · exact ih x hx
  exact all r x hx
theorem dt_of {kvs : List (List Key × V)} (ok : HOk P w H h) (e : H a = some (.dT kvs)) : kvs.length ≤ sizeLine ∧ (a == sysModules) = false ∧
    ∃ xs, KT H kvs xs ∧ h.DictOfH (tupleKind (mixKind P w)) a xs := dt_rd ok (.inl e)
end
def DGet (H : Hp) (a : Addr) (y : V) (r : Option V) : Prop :=
  (∃ kvs k, Rd H a (.dK kvs) ∧ y = kV k ∧ r = valV kvs k) ∨ ∃ kvs k b, Rd H a (.dT kvs) ∧ y = .ref b ∧ H b = some (.tup (k.map kV)) ∧ r = valV kvs k
def DPut (H : Hp) (a : Addr) (y v : V) (H' : Hp) : Prop :=
  (∃ kvs k, H a = some (.dK kvs) ∧ y = kV k ∧ kvs.length < sizeLine ∧ H' = upd H a (.dK (putK kvs k v))) ∨
  ∃ kvs k b, H a = some (.dT kvs) ∧ y = .ref b ∧ H b = some (.tup (k.map kV)) ∧ kvs.length < sizeLine ∧ H' = upd H a (.dT (putK kvs k v))
theorem DGet.k {H : Hp} {a : Addr} {kvs : List (Key × V)} {k : Key} (e : H a = some (.dK kvs)) : DGet H a (kV k) (valV kvs k) := .inl ⟨kvs, k, .inl e, rfl, rfl⟩
theorem DPut.k {H : Hp} {a : Addr} {kvs : List (Key × V)} {k : Key} {v : V} (e : H a = some (.dK kvs)) (hl : kvs.length < sizeLine) : DPut H a (kV k) v (upd H a (.dK (putK kvs k v))) := .inl ⟨kvs, k, e, rfl, hl, rfl⟩
section
variable {X : Cx} {pins : List (Addr × Obj)} {σ : St} {H : Hp} {s : Shared} {a : Addr} {y v : V} {u r : Value} {o : Option V} {A : Around} {E : Value → Shared → Prop}
theorem Inv.big (I : Inv X pins σ H s) : sysModules < s.heap.objs.size := by
  have h : mainGlobals < s.heap.objs.size := (I.mod.glob.keeps I.bk).lt
  exact Nat.lt_trans (by decide) h
theorem d_write {h' : Heap} {t' : Nat} {ob : HO} (I : Inv X pins σ H s) (mu : Mut (H a)) (hs : Heap.SameBut a s.heap h') (he : ∃ q, h'.get? a = some q) (new : ObjOk X.prog X.w (upd H a ob) h' a ob) :
    Inv X pins σ (upd H a ob) { s with heap := h', toks := t' } :=
  I.write (x := a) (e := a) mu (.inl rfl) (fun b q hb z => (hs.2 b hb).trans z) he new
theorem dk_new {P : Program} {w : World} {H' : Hp} {h' : Heap} {kvs : List (Key × V)} {vs : List (Key × Value)} (z : kvs.length ≤ sizeLine) (hd : (a == sysModules) = false) (rel : KV kvs vs) (dd : h'.DictOf (mixKind P w) a vs) :
    ObjOk P w H' h' a (.dK kvs) := ⟨z, hd, vs, rel, dd⟩
theorem d_setItem {H' : Hp} {Q : Unit → Shared → Prop} (hu : A.units + 1 < cLine) (I : Inv X pins σ H s) (g : DPut H a y v H') (ry : RelV y u) (rv : RelV v r) (h : ∀ s', Inv X pins σ H' s' → Q () s') :
    wpAny (model X.prog X.w) A (setItem (.ref a) u r) Q E s := by
  rcases g with ⟨kvs, k, e, ey, l, eH⟩ | ⟨kvs, k, b, e, ey, eb, l, eH⟩
  · subst ey eH
    obtain ⟨z, hd, vs, rel, dd⟩ := dk_of I.hok e
    have hz : vs.length ≤ sizeLine := by rw [← rel.length]; exact z
    have hl : (putK kvs k v).length ≤ sizeLine := by have := length_putK kvs k v; omega
    refine wpAny_setItem_pairs (hsz := hz) (kV_is ry) dd fun h' dd' hs => h _ ?_
    have he : ∃ q, h'.get? a = some q := let ⟨q, _, _, hq, _⟩ := dd'; ⟨q, hq⟩
    exact d_write I (by rw [e]; exact True.intro) hs he (dk_new hl hd (rel.put k rv) dd')
  · subst ey eH
    cases (show u = Value.ref b from ry)
    obtain ⟨z, hd, xs, rel, dd⟩ := dt_of I.hok e
    have hz : xs.length ≤ sizeLine := by rw [← Paired.length rel]; exact z
    have hl : (putK kvs k v).length ≤ sizeLine := by have := length_putK kvs k v; omega
    refine wpAny_setItem_heap (hsz := hz) (tupleKind_room_in1 hu) (key_of I.hok eb) dd fun h' dd' hs => h _ ?_
    obtain ⟨q, es, ep, hq, h2, h3, h4, _, h5⟩ := dd'
    refine d_write I (by rw [e]; exact True.intro) hs ⟨q, hq⟩ ⟨hl, hd, _, (rel.put k eb rv).keeps fun c ys ec => ?_, q, es, ep, hq, h2, h3, h4, h5⟩
    rw [upd_ne (ne_of ec e (fun z => nomatch z))]
    exact ec
end
section
variable {X : Cx} {pins : List (Addr × Obj)} {σ : St} {H : Hp} {s : Shared} {a : Addr} {kvs : List (Key × V)} {k : Key} {u : Value} {A : Around} {E : Value → Shared → Prop}
theorem d_delItem {Q : Unit → Shared → Prop} (I : Inv X pins σ H s) (e : H a = some (.dK kvs)) (ry : RelV (kV k) u) (l : (valV kvs k).isSome = true) (h : ∀ s', Inv X pins σ (upd H a (.dK (dropK kvs k))) s' → Q () s') :
    wpAny (model X.prog X.w) A (delItem (.ref a) u) Q E s := by
  obtain ⟨z, hd, vs, rel, dd⟩ := dk_of I.hok e
  refine wpAny_delItem_slot dd.typeIs (by decide) PySem.F.slot_dict_delitem
    (call_meetsIn PySem.F.slot_dict_delitem dd.typeIs PySem.F.entry_dict_delitem (PySem.F.args_dict_delitem_2 _ _) (meets_dict_delitem_pairs (mixKind X.prog X.w) a (kV_is ry)) ⟨vs, dd, by rw [← rel.length]; exact z, by rw [← (rel.val k).isSome_eq]; exact l, fun h' dd' hs => h _ ?_⟩)
  have he : ∃ q, h'.get? a = some q := let ⟨q, _, _, hq, _⟩ := dd'; ⟨q, hq⟩
  exact d_write I (by rw [e]; exact True.intro) hs he (dk_new (Nat.le_trans (dropK_le kvs k) z) hd (rel.drop k) dd')
theorem d_pop {v : V} {more : List Value} {Q : Value → Shared → Prop} (I : Inv X pins σ H s) (e : H a = some (.dK kvs)) (ry : RelV (kV k) u) (l : valV kvs k = some v) (hm : more = [] ∨ ∃ x, more = [x])
    (h : ∀ w' s', Inv X pins σ (upd H a (.dK (dropK kvs k))) s' → RelV v w' → Q w' s') : wpAny (model X.prog X.w) A (call (.builtin "dict.pop") (.ref a :: u :: more)) Q E s := by
  obtain ⟨z, hd, vs, rel, dd⟩ := dk_of I.hok e
  obtain ⟨w', hw, rw'⟩ := RelO.some_of (v := v) (o := valueAt vs k) (by rw [← l]; exact rel.val k)
  have hp : (keyPart u).isSome = true := by
    cases k with
    | inl i => obtain ⟨t, q⟩ := (show ∃ t, u = Value.int i t from ry); subst q; rfl
    | inr x => obtain ⟨t, q⟩ := (show ∃ t, u = Value.str x t from ry); subst q; rfl
  have ha : argsOk "dict.pop" ⟨.ref a :: u :: more, []⟩ := by
    rcases hm with q | ⟨x, q⟩
    · subst q; exact PySem.F.args_dict_pop_2 _ _
    · subst q; exact PySem.F.args_dict_pop_3 _ _ _
  refine call_meetsIn PySem.F.slot_dict_pop dd.typeIs PySem.F.entry_dict_pop ha (meets_dict_pop_there (mixKind X.prog X.w) a (kV_is ry) more hm hp)
    ⟨vs, w', dd, by rw [← rel.length]; exact z, hw, fun h' dd' hs => h w' _ ?_ rw'⟩
  have he : ∃ q, h'.get? a = some q := let ⟨q, _, _, hq, _⟩ := dd'; ⟨q, hq⟩
  exact d_write I (by rw [e]; exact True.intro) hs he (dk_new (Nat.le_trans (dropK_le kvs k) z) hd (rel.drop k) dd')
theorem d_popD {r : Value} {Q : Value → Shared → Prop} (I : Inv X pins σ H s) (e : H a = some (.dK kvs)) (ry : RelV (kV k) u) (l : valV kvs k = none) (h : ∀ s', Inv X pins σ H s' → Q r s') :
    wpAny (model X.prog X.w) A (call (.builtin "dict.pop") [.ref a, u, r]) Q E s := by
  obtain ⟨z, hd, vs, rel, dd⟩ := dk_of I.hok e
  have hn : valueAt vs k = none := RelO.none_of (by rw [← l]; exact rel.val k)
  have hp : (keyPart u).isSome = true := by
    cases k with
    | inl i => obtain ⟨t, q⟩ := (show ∃ t, u = Value.int i t from ry); subst q; rfl
    | inr x => obtain ⟨t, q⟩ := (show ∃ t, u = Value.str x t from ry); subst q; rfl
  exact call_meetsIn PySem.F.slot_dict_pop dd.typeIs PySem.F.entry_dict_pop (PySem.F.args_dict_pop_3 _ _ _) (meets_dict_pop_default (mixKind X.prog X.w) a (kV_is ry) hd hp r) ⟨vs, dd, hn, h _ (I.tok _)⟩
theorem d_len {Q : Value → Shared → Prop} (I : Inv X pins σ H s) (e : Rd H a (.dK kvs)) (h : ∀ t s', Inv X pins σ H s' → Q (.int kvs.length t) s') : wpAny (model X.prog X.w) A (call (.builtin "len") [.ref a]) Q E s := by
  obtain ⟨z, hd, vs, rel, dd⟩ := dk_rd I.hok e
  refine call_len_dict hd dd (by rw [← rel.length]; rw [sizeLine_eq] at z; omega) ?_
  rw [← rel.length]
  exact h _ _ (I.tok _)
end
def NoSl (i : Expr) : Prop := ∀ ov iv, subscripted i false ov iv = operate [ov, iv] (getItem ov iv)
theorem subD_of {prog : Program} {w : World} {A : Around} {E : Value → Shared → Prop} {s : Shared} {env : Env} {value slice : Expr} {pos : Pos} {T id : String} {Q : Value → Shared → Prop}
    (hl : typeLookup (.type T) "__getitem__" = pure (some (.builtin id))) (hs : NoSl slice)
    (h : wpAny (model prog w) A (eval value env) (fun o s₁ => wpAny (model prog w) A (eval slice env) (fun i s₂ => s₂.TypeIs o T ∧ wpAny (model prog w) A (getItem o i) Q E s₂) E s₁) E s) :
    wpAny (model prog w) A (eval (.Subscript value slice pos) env) Q E s := by
  refine Subscript_ (wpAny_mono h (fun o s₁ h₁ => wpAny_mono h₁ (fun i s₂ h₂ => ?_) fun _ _ x => x) fun _ _ x => x)
  obtain ⟨hT, h₂⟩ := h₂
  unfold subscriptTail
  refine wpAny_bind ?_
  rw [getitemInPython_of_ne hT.not_modules]
  refine wpAny_bind (wpAny_specialOf hT hl ?_)
  have fin : wpAny (model prog w) A (subscripted slice false o i) (fun r s₃ => wpAny (model prog w) A (letTemporaryGo value o r >>= fun _ => pure r) Q E s₃) E s₂ := by
    rw [hs o i]
    exact wpAny_operating (wpAny_mono h₂ (fun r s₃ h₃ => wpAny_bind (wpAny_letTemporaryGo (wpAny_pure h₃))) fun _ _ x => x)
  first
    | exact wpAny_pure (wpAny_bind fin)
    | exact wpAny_bind (wpAny_pure (wpAny_bind fin))
    | exact wpAny_bind fin
def sDPut (td ty tv : TE) : TS := fun D σ H => tv σ H fun v H1 => td σ H1 fun x H2 => ty σ H2 fun y H3 => ∃ a H4, x = .ref a ∧ DPut H3 a y v H4 ∧ D.nx σ H4
section
variable {X : Cx} {o i e value : Expr} {pos pos' tpos : Pos} {td ty tv : TE}
theorem ps_dput (hu : X.A.units + 1 < cLine) (ho : PE X o td) (hi : PE X i ty) (hv : PE X value tv) (hs : swapsWith value (some (.Subscript o i pos')) pos.line X.env = pure false) :
    PS X (.Assign [.Subscript o i pos'] value pos) (sDPut td ty tv) := by
  intro pins s σ H D I h
  refine wpAny_Assign_Subscript (thn (hv pins s σ H _ I h) fun r s1 ⟨v, H1, I1, rv, q1⟩ => thn (ho pins s1 σ H1 _ I1 q1) fun u s2 ⟨x, H2, I2, rx, q2⟩ => thn (hi pins s2 σ H2 _ I2 q2) fun iv s3 ⟨y, H3, I3, ry, a, H4, ex, g, q3⟩ => ?_) hs
  subst ex
  obtain rfl : u = Value.ref a := rx
  exact d_setItem hu I3 g ry rv fun s4 I4 => ⟨σ, H4, I4, q3⟩
end
theorem dk_empty {P : Program} {w : World} {H : Hp} (h : Heap) (hb : sysModules < h.objs.size) : ObjOk P w H (h.push { cls := .type "dict", data := .dict #[] }) h.objs.size (.dK []) :=
  ⟨Nat.zero_le _, beq_eq_false_iff_ne.mpr (Ne.symm (Nat.ne_of_lt hb)), [], .nil, Heap.DictOf.new h⟩
def tDNewK : TE := fun _ H Q => ∀ p, H p = none → Q (.ref p) (upd H p (.dK []))
section
variable {X : Cx} {pos : Pos}
theorem pe_dnewK : PE X (.Dict [] [] pos) tDNewK := fun pins s σ H Q I h =>
  wpAny_Dict_empty ⟨.ref s.heap.objs.size, _, I.laid (a := s.heap.objs.size) (o := .dK []) (t' := s.toks) (fun _ _ q => Heap.get?_push_of_some _ q) (Nat.le_refl _) (dk_empty s.heap I.big), rfl, h _ (I.hok.fresh (Nat.le_refl _))⟩
end
structure M1 (X : Cx) (o : Expr) (m : Str) (apos : Pos) (e : Expr) (cpos : Pos) : Prop where
  base : attributeBase o m X.env (eval o X.env) = eval o X.env
  few : ((backTo cpos (starEach [e] X.env)).all (fun x => !x.1) && (backToKw cpos (keywordEach [] X.env)).all (fun x => x.1.isSome)
    && decide (([e] : List Expr).length + ([] : List Keyword).length + (if ([] : List Keyword).isEmpty then 0 else 1) < 30)) = true
  line : (apos.endLine == cpos.line) = true
  trees : backTo cpos (starEach [e] X.env) = [(false, eval e X.env)]
structure M2 (X : Cx) (o : Expr) (m : Str) (apos : Pos) (e f : Expr) (cpos : Pos) : Prop where
  base : attributeBase o m X.env (eval o X.env) = eval o X.env
  few : ((backTo cpos (starEach [e, f] X.env)).all (fun x => !x.1) && (backToKw cpos (keywordEach [] X.env)).all (fun x => x.1.isSome)
    && decide (([e, f] : List Expr).length + ([] : List Keyword).length + (if ([] : List Keyword).isEmpty then 0 else 1) < 30)) = true
  line : (apos.endLine == cpos.line) = true
  trees : backTo cpos (starEach [e, f] X.env) = [(false, eval e X.env), (false, eval f X.env)]
def IsD (H : Hp) (a : Addr) : Prop := (∃ kvs, Rd H a (.dK kvs)) ∨ ∃ kvs, Rd H a (.dT kvs)
theorem isD_at {X : Cx} {pins : List (Addr × Obj)} {σ : St} {H : Hp} {s : Shared} {a : Addr} (I : Inv X pins σ H s) (d : IsD H a) :
    s.TypeIs (.ref a) "dict" ∧ (∀ b, Value.ref a = .ref b → ∃ ob, s.heap.get? b = some ob ∧ ob.dict = none) ∧ (a == sysModules) = false := by
  rcases d with ⟨kvs, e⟩ | ⟨kvs, e⟩
  · obtain ⟨_, hd, vs, _, dd⟩ := dk_rd I.hok e
    refine ⟨dd.typeIs, fun b q => ?_, hd⟩
    cases q
    obtain ⟨ob, _, _, h1, h2, _⟩ := dd
    exact ⟨ob, h1, h2.2.1⟩
  · obtain ⟨_, hd, xs, _, dd⟩ := dt_rd I.hok e
    refine ⟨dd.typeIs, fun b q => ?_, hd⟩
    cases q
    obtain ⟨ob, _, _, h1, h2, _⟩ := dd
    exact ⟨ob, h1, h2.2.1⟩
section
variable {X : Cx} {pins : List (Addr × Obj)} {σ : St} {H : Hp} {s : Shared} {a : Addr} {y d : V} {u r : Value} {o : Option V} {A : Around} {E : Value → Shared → Prop}
theorem d_get2 {Q : Value → Shared → Prop} (hu : A.units + 1 < cLine) (I : Inv X pins σ H s) (g : DGet H a y o) (ry : RelV y u) (rd : RelV d r) (h : ∀ w' s', Inv X pins σ H s' → RelV (o.getD d) w' → Q w' s') :
    wpAny (model X.prog X.w) A (call (.builtin "dict.get") [.ref a, u, r]) Q E s := by
  rcases g with ⟨kvs, k, e, ey, l⟩ | ⟨kvs, k, b, e, ey, eb, l⟩
  · subst ey
    obtain ⟨z, hd, vs, rel, dd⟩ := dk_rd I.hok e
    refine call_meetsIn PySem.F.slot_dict_get dd.typeIs PySem.F.entry_dict_get (PySem.F.args_dict_get_3 _ _ _) (meets_dict_get_default (mixKind X.prog X.w) a (kV_is ry) hd r) ⟨_, dd.mapOf, h _ _ (I.tok _) ?_⟩
    rw [l]
    exact (rel.val k).getD rd
  · subst ey
    cases (show u = Value.ref b from ry)
    obtain ⟨z, hd, xs, rel, dd⟩ := dt_rd I.hok e
    refine call_meetsIn PySem.F.slot_dict_get dd.typeIs PySem.F.entry_dict_get (PySem.F.args_dict_get_3 _ _ _) (meetsH_dict_get_default (tupleKind (mixKind X.prog X.w)) a b hd r) ⟨tupleKind_room_in1 hu, k, xs, key_of I.hok eb, dd, h _ _ (I.tok _) ?_⟩
    rw [l]
    exact (rel.val k).getD rd
end
def tDGet2 (td ty tx : TE) : TE := fun σ H Q => td σ H fun x H1 => ∃ a, x = .ref a ∧ IsD H1 a ∧ ty σ H1 fun y H2 => tx σ H2 fun z H3 => ∃ o, DGet H3 a y o ∧ Q (o.getD z) H3
def tDPop1 (td ty : TE) : TE := fun σ H Q => td σ H fun x H1 => ∃ a, x = .ref a ∧ IsD H1 a ∧ ty σ H1 fun y H2 => ∃ kvs k v, H2 a = some (.dK kvs) ∧ y = kV k ∧ valV kvs k = some v ∧ Q v (upd H2 a (.dK (dropK kvs k)))
def tDPop2 (td ty tx : TE) : TE := fun σ H Q => td σ H fun x H1 => ∃ a, x = .ref a ∧ IsD H1 a ∧ ty σ H1 fun y H2 => tx σ H2 fun z H3 => ∃ kvs k, H3 a = some (.dK kvs) ∧ y = kV k ∧
  (∀ v, valV kvs k = some v → Q v (upd H3 a (.dK (dropK kvs k)))) ∧ (valV kvs k = none → Q z H3)
section
variable {X : Cx} {o e f : Expr} {apos cpos : Pos} {td ty tx : TE}
theorem pe_dget2 (hu : X.A.units + 1 < cLine) (ho : PE X o td) (he : PE X e ty) (hf : PE X f tx) (m : M2 X o "get" apos e f cpos) : PE X (.Call (.Attribute o "get" apos) [e, f] [] cpos) (tDGet2 td ty tx) := by
  intro pins s σ H Q I h
  refine wpAny_Call_method m.base m.few m.line PySem.F.plainAttrs_dict PySem.F.slot_dict_get PySem.F.type_dict_get (thn (ho pins s σ H _ I h) fun u s1 ⟨x, H1, I1, rx, a, ex, d, q1⟩ => ?_)
  subst ex
  obtain rfl : u = Value.ref a := rx
  obtain ⟨t1, t2, _⟩ := isD_at I1 d
  refine ⟨t1, t2, ?_⟩
  rw [m.trees]
  refine Calls.callWith_builtin rfl (Calls.evalArgs_plain (Calls.spliced_cons (thn (he pins s1 σ H1 _ I1 q1) fun iv s2 ⟨y, H2, I2, ry, q2⟩ =>
    Calls.spliced_cons (thn (hf pins s2 σ H2 _ I2 q2) fun fv s3 ⟨z, H3, I3, rz, ov, g, q3⟩ => Calls.spliced_nil ?_))))
  exact d_get2 hu I3 g ry rz fun w' s4 I4 rw' => ⟨_, H3, I4, rw', q3⟩
theorem pe_dpop1 (ho : PE X o td) (he : PE X e ty) (m : M1 X o "pop" apos e cpos) : PE X (.Call (.Attribute o "pop" apos) [e] [] cpos) (tDPop1 td ty) := by
  intro pins s σ H Q I h
  refine wpAny_Call_method m.base m.few m.line PySem.F.plainAttrs_dict PySem.F.slot_dict_pop PySem.F.type_dict_pop (thn (ho pins s σ H _ I h) fun u s1 ⟨x, H1, I1, rx, a, ex, d, q1⟩ => ?_)
  subst ex
  obtain rfl : u = Value.ref a := rx
  obtain ⟨t1, t2, _⟩ := isD_at I1 d
  refine ⟨t1, t2, ?_⟩
  rw [m.trees]
  refine Calls.callWith_builtin rfl (Calls.evalArgs_plain (Calls.spliced_cons (thn (he pins s1 σ H1 _ I1 q1) fun iv s2 ⟨y, H2, I2, ry, kvs, k, v, ea, ey, l, q2⟩ => Calls.spliced_nil ?_)))
  subst ey
  exact d_pop I2 ea ry l (.inl rfl) fun w' s3 I3 rw' => ⟨v, _, I3, rw', q2⟩
theorem pe_dpop2 (ho : PE X o td) (he : PE X e ty) (hf : PE X f tx) (m : M2 X o "pop" apos e f cpos) : PE X (.Call (.Attribute o "pop" apos) [e, f] [] cpos) (tDPop2 td ty tx) := by
  intro pins s σ H Q I h
  refine wpAny_Call_method m.base m.few m.line PySem.F.plainAttrs_dict PySem.F.slot_dict_pop PySem.F.type_dict_pop (thn (ho pins s σ H _ I h) fun u s1 ⟨x, H1, I1, rx, a, ex, d, q1⟩ => ?_)
  subst ex
  obtain rfl : u = Value.ref a := rx
  obtain ⟨t1, t2, _⟩ := isD_at I1 d
  refine ⟨t1, t2, ?_⟩
  rw [m.trees]
  refine Calls.callWith_builtin rfl (Calls.evalArgs_plain (Calls.spliced_cons (thn (he pins s1 σ H1 _ I1 q1) fun iv s2 ⟨y, H2, I2, ry, q2⟩ =>
    Calls.spliced_cons (thn (hf pins s2 σ H2 _ I2 q2) fun fv s3 ⟨z, H3, I3, rz, kvs, k, ea, ey, q3, q4⟩ => Calls.spliced_nil ?_))))
  subst ey
  cases l : valV kvs k with
  | some v => exact d_pop I3 ea ry l (.inr ⟨fv, rfl⟩) fun w' s4 I4 rw' => ⟨v, _, I4, rw', q3 v l⟩
  | none => exact d_popD I3 ea ry l fun s4 I4 => ⟨z, H3, I4, rz, q4 l⟩
end
section
variable {X : Cx} {pins : List (Addr × Obj)} {σ : St} {H : Hp} {s : Shared} {a : Addr} {kvs : List (Key × V)} {A : Around} {E : Value → Shared → Prop}
end
section
variable {X : Cx} {pins : List (Addr × Obj)} {σ : St} {H : Hp} {s : Shared} {a : Addr} {y : V} {u : Value} {A : Around} {E : Value → Shared → Prop}
end
end L2
namespace L2
open PySem PySem.Spec PyProof.Rows
section
variable {prog : Program} {w : World} {A : Around} {E : Value → Shared → Prop}
end
section
variable {X : Cx}
end
end L2
namespace L2
open PySem PySem.Spec PyProof.Rows
section
variable {X : Cx} {pins : List (Addr × Obj)} {σ : St} {H : Hp} {s : Shared} {h' : Heap}
theorem Inv.turnedNew {t' : Nat} {ch : List Addr} {T : Addr} {ob : HO} (I : Inv X pins σ H s) (k : ∀ b o, b ∉ ch → s.heap.get? b = some o → h'.get? b = some o) (hf : ∀ b ∈ ch, FpOk X pins H b) (hT : s.heap.objs.size ≤ T)
    (new : ObjOk X.prog X.w (upd H T ob) h' T ob) : Inv X pins σ (upd H T ob) { s with heap := h', toks := t' } := by
  have hn : H T = none := I.hok.fresh hT
  have nit : ∀ b u, H b = some u → b ∉ ch := fun b u e z => by
    have q := (hf b z).1
    rw [q] at e; cases e
  refine I.step (g' := s.gens) (d' := s.drawn) (ch := ch) (fun b hb => ⟨(hf b hb).2.2.2.1, (hf b hb).2.1, (hf b hb).2.2.2.2.1, (hf b hb).2.2.2.2.2⟩) (fun b o _ _ hc e _ => k b o hc e) (fun b o _ _ hc e _ => ⟨o.slots, k b o hc e⟩)
    (fun b o _ e n => ?_) (fun b o hc e => ⟨o, k b o hc e⟩) (fun b xs e => ?_) (fun b o u e => ?_) (fun b ps e => ⟨#[], ?_⟩) (fun m hm => ?_) (fun b u e => ?_) I.bare
  · rw [upd_ne (Nat.ne_of_lt (Nat.lt_of_lt_of_le (Heap.lt_size e) hT))]; exact n
  · rw [upd_ne (ne_of_none e hn)]; exact e
  · rw [upd_ne (ne_of_none e hn)]; exact e
  · rw [upd_ne (ne_of_none e hn), e]; simp
  · obtain ⟨o, es, ep, ho, r⟩ := hm
    exact ⟨o, es, ep, k _ o (fun z => (hf _ z).2.1 rfl) ho, r⟩
  · by_cases hb : b = T
    · subst hb
      rw [upd_same] at e
      cases e
      exact new
    · rw [upd_ne hb] at e
      refine (I.hok b u e).stay (fun c v hc q => k c v ?_ q) (fun c q => by rw [upd_ne (ne_of_none q hn)]; exact q) fun c xs q => by rw [upd_ne (ne_of_none q hn)]; exact q
      rcases hc with z | z
      · rw [z]; exact nit b u e
      · exact nit c _ z
theorem Inv.lock {d : Addr} {u : HO} (I : Inv X pins σ H s) (h : H d = some u) (mu : Mut (some u)) : ∃ od, Inv X pins σ (upd H d (.frz od u)) s := by
  have x := I.hok d u h
  have ex : ∃ od, s.heap.get? d = some od := by
    cases u with
    | lst xs => obtain ⟨_, _, _, _, e⟩ := x; exact ⟨_, e⟩
    | dK kvs => obtain ⟨_, _, _, _, o, _, _, e, _⟩ := x; exact ⟨o, e⟩
    | dT kvs => obtain ⟨_, _, _, _, o, _, _, e, _⟩ := x; exact ⟨o, e⟩
    | set S n => obtain ⟨o, _, _, _, e, _⟩ := x; exact ⟨o, e⟩
    | ins C dx fs => obtain ⟨_, _, _, e, _⟩ := x; exact ⟨_, e⟩
    | ext φ => obtain ⟨_, ⟨_, e⟩, _⟩ := x; exact ⟨_, e⟩
    | _ => exact False.elim mu
  obtain ⟨od, e⟩ := ex
  have new : ObjOk X.prog X.w (upd H d (.frz od u)) s.heap d (.frz od u) := by
    refine ⟨e, x.stay (fun b v _ q => q) (fun b q => ?_) fun b xs q => ?_⟩
    · rw [upd_ne (fun z => by rw [z, h] at q; cases q; exact mu)]; exact q
    · rw [upd_ne (fun z => by rw [z, h] at q; cases q; exact mu)]; exact q
  exact ⟨od, I.write (x := d) (e := d) (t' := s.toks) (h' := s.heap) (by rw [h]; exact mu) (.inl rfl) (fun b v _ q => q) ⟨od, e⟩ new⟩
theorem Inv.nofrz {d : Addr} {u : HO} (I : Inv X pins σ H s) (h : H d = some u) (mu : Mut (some u)) : ∀ o' u', X.H_0 d ≠ some (.frz o' u') := fun o' u' e => by
  have q := I.base.frzs d o' u' e
  rw [h] at q
  cases q
  exact mu
theorem Inv.unlock {d : Addr} {od : Obj} {u : HO} (I : Inv X pins σ H s) (h : H d = some (.frz od u)) (hn : ∀ o' u', X.H_0 d ≠ some (.frz o' u')) : Inv X pins σ (upd H d u) s := by
  have neH : ∀ b o, H b = some o → (∀ o' u', o ≠ .frz o' u') → b ≠ d := fun b o e hne z => by
    rw [z, h] at e
    cases e
    exact hne _ _ rfl
  have neN : ∀ b, H b = none → b ≠ d := fun b e z => by rw [z, h] at e; cases e
  refine ⟨I.ok, I.os, I.bare, ⟨I.base.keep, I.base.slot, fun b o e n hx => ?_, I.base.there, fun b xs e => ?_, fun b o x e => ?_, fun b ps e => ?_⟩, I.loc, I.cell, ?_, fun x c e => ?_, fun p hp => ?_, fun b o e => ?_, I.len⟩
  · rw [upd_ne (neN b (I.base.free b o e n hx))]; exact I.base.free b o e n hx
  · have q := I.base.tups b xs e
    rw [upd_ne (neH b _ q (fun _ _ z => nomatch z))]; exact q
  · have q := I.base.frzs b o x e
    rw [upd_ne (fun z => by rw [z] at e; exact hn _ _ e)]; exact q
  · obtain ⟨m, q⟩ := I.base.tbls b ps e
    exact ⟨m, by rw [upd_ne (neH b _ q (fun _ _ z => nomatch z))]; exact q⟩
  · rw [upd_ne (neN _ I.free)]; exact I.free
  · rw [upd_ne (neN c (I.freeC x c e))]; exact I.freeC x c e
  · obtain ⟨e, n, r⟩ := I.pin p hp
    exact ⟨e, by rw [upd_ne (neN _ n)]; exact n, r⟩
  · by_cases hb : b = d
    · rw [hb, upd_same] at e
      cases e
      rw [hb]
      obtain ⟨_, x⟩ := I.hok d _ h
      exact x.stay (fun c v _ q => q) (fun c q => by rw [upd_ne (neH c _ q (fun _ _ z => nomatch z))]; exact q) fun c xs q => by rw [upd_ne (neH c _ q (fun _ _ z => nomatch z))]; exact q
    · rw [upd_ne hb] at e
      exact (I.hok b o e).stay (fun c v _ q => q) (fun c q => by rw [upd_ne (neH c _ q (fun _ _ z => nomatch z))]; exact q) fun c xs q => by rw [upd_ne (neH c _ q (fun _ _ z => nomatch z))]; exact q
end
def tLock (t : TS) : TS := fun D σ H => ∃ d u, H d = some u ∧ Mut (some u) ∧ ∀ od, t ⟨fun σ' H' => H' d = some (.frz od u) ∧ D.nx σ' (upd H' d u), fun v H' => H' d = some (.frz od u) ∧ D.rt v (upd H' d u), fun σ' H' => H' d = some (.frz od u) ∧ D.bk σ' (upd H' d u), fun σ' H' => H' d = some (.frz od u) ∧ D.ct σ' (upd H' d u)⟩ σ (upd H d (.frz od u))
section
variable {X : Cx}
theorem ps_lock {st : Stmt} {t : TS} (h : PS X st t) : PS X st (tLock t) := by
  intro pins s σ H D I hw
  obtain ⟨d, u, hd, mu, hw⟩ := hw
  obtain ⟨od, I1⟩ := I.lock hd mu
  refine thn (h pins s σ _ _ I1 (hw od)) fun f s1 q => ?_
  cases f with
  | next => obtain ⟨σ', H', I2, e, q⟩ := q; exact ⟨σ', _, I2.unlock e (I.nofrz hd mu), q⟩
  | brk => obtain ⟨σ', H', I2, e, q⟩ := q; exact ⟨σ', _, I2.unlock e (I.nofrz hd mu), q⟩
  | cont => obtain ⟨σ', H', I2, e, q⟩ := q; exact ⟨σ', _, I2.unlock e (I.nofrz hd mu), q⟩
  | ret v => obtain ⟨x, σ', H', I2, r, e, q⟩ := q; exact ⟨x, σ', _, I2.unlock e (I.nofrz hd mu), r, q⟩
theorem pi_one {tg : Expr} {pins : List (Addr × Obj)} {σ : St} {H : Hp} {s : Shared} {R : It → Hp → Prop} {J : It} {tn : Nat → Heap → Prop} {tk : Nat} (I : Inv X pins σ H s) (o : Obj)
    (T : Turn X.prog X.w X.K tg J [s.heap.objs.size] s.heap.objs.size tn) (st : tn 0 (s.heap.push o)) (q : R J H) : PIE X pins σ tg R (.ref s.heap.objs.size) { s with heap := s.heap.push o, toks := tk } := by
  refine ⟨s.heap.objs.size, [s.heap.objs.size], tn, J, H, rfl, I.kept fun b ob e => Heap.get?_push_of_some _ e, T, st, fun b hb => ?_, q⟩
  have e : b = s.heap.objs.size := by simpa using hb
  subst e
  exact I.fpOk (Nat.le_refl _) (I.hok.fresh (Nat.le_refl _))
end
def Itc (lo c : Int) (n : Nat) : It := ⟨fun i _ => i < n, fun i H x H' => H' = H ∧ x = .int (lo + (i : Nat) * c), fun i _ => n ≤ i⟩
theorem turn_rangeC {P : Program} {w : World} {K : PySem.W.Frag} {tg : Expr} (it : Addr) (lo c : Int) (n : Nat) : Turn P w K tg (Itc lo c n) [it] it (fun i h => IsRangeIter h it (lo + (i : Nat) * c) ((n : Int) - (i : Nat)) c) where
  mem := by simp
  obj := fun i h st b hb => by
    have e : b = it := by simpa using hb
    subst e
    exact ⟨_, st, fun v z => nomatch z⟩
  keep := fun i h h' st k => k it (by simp) _ st
  item := by
    intro X hP hw hK hc i pins s σ H E I hf st hg
    subst hP hw hK
    obtain ⟨f0, f1, f2, f3, f4, f5⟩ := hf it (by simp)
    have W := Walks.range (prog := X.prog) (w := X.w) (I.ok.hd hc) it lo c n
    refine W.item i s _ _ hg st fun v h' tk hv st' kk => ?_
    obtain ⟨t, rfl⟩ := hv
    have I1 : Inv X pins σ H { s with heap := h', toks := tk } := I.turned (fun b o hb e => kk b o (by simpa using hb) e) f0 f1 f3 f4 f5
    exact ⟨_, rfl, go_of (s := { s with heap := h', toks := tk }) (n := "range_iterator") st' rfl rfl (by decide) ⟨.int (lo + (i : Nat) * c), H, I1, ⟨t, rfl⟩, ⟨rfl, rfl⟩, st', fun b hb => (hf b hb).1⟩⟩
  done := by
    intro X hP hw hK hc i pins s σ H E I hf st hg
    subst hP hw hK
    obtain ⟨f0, f1, f2, f3, f4, f5⟩ := hf it (by simp)
    exact wpAny_pyNext_range_end (I.ok.hd hc) st (by have : n ≤ i := hg; omega) fun h' eb => ⟨rfl, I.turned (t' := s.toks) (fun b o hb e => eb b o hb e) f0 f1 f3 f4 f5⟩
  self := fun A i s Q E st h => wpAny_pyIter_rangeiter st h
def RgC (i j c : Int) (n : Nat) : Prop := c ≠ 0 ∧ c.natAbs < 1073741824 ∧ Builtin.Range.small i j c = true ∧ Builtin.Range.rangeSize i j c = n
theorem RgC.neg {i j : Int} (ha : -(2 ^ 62) ≤ i) (ha' : i < 2 ^ 62) (hb : -(2 ^ 62) ≤ j) (hb' : j < 2 ^ 62) : RgC i j (-1) (i - j).toNat :=
  ⟨by decide, by decide, PySem.W.small_down ha ha' hb hb', PySem.W.rangeSize_downNat i j⟩
def iRng3 (ta : TA) : TI := fun σ H R => ta σ H fun vs H1 => ∃ (i j c : Int) (n : Nat), vs = [.int i, .int j, .int c] ∧ RgC i j c n ∧ R (Itc i c n) H1
section
variable {X : Cx} {tg : Expr}
theorem pi_range3 {a b c : Expr} {ta : TA} {p pos : Pos} (hg : Gl X "range") (hm : X.mg "range" = none) (ha : PA X [a, b, c] ta)
    (hs : starEach [a, b, c] X.env = (false, eval a X.env) :: starEach [b, c] X.env := by rfl) (hpl : (backTo pos (starEach [b, c] X.env)).any (·.1) = false := by rfl) :
    PI X tg (.Call (.Name "range" p) [a, b, c] [] pos) (iRng3 ta) := by
  intro pins s σ H R I h
  refine Call_ (ld_blt I hg hm boot_range (PyProof.Rows.callWith_type1 (thn (ha pos pins s σ H _ I h) fun us s1 ⟨vs, H1, I1, r1, q1⟩ => ?_) hs hpl))
  obtain ⟨i, j, k, n, e, ⟨c0, c1, c2, c3⟩, q⟩ := q1
  subst e
  cases r1 with
  | cons r rr =>
    cases rr with
    | cons r' rr =>
      cases rr with
      | cons r'' rr =>
        cases rr
        obtain ⟨t, rfl⟩ := r
        obtain ⟨t', rfl⟩ := r'
        obtain ⟨t'', rfl⟩ := r''
        refine call_range_3 c0 ?_ (.inl (PyProof.noPylong_small c1))
        refine wpAny_pyIter_range (IsRange.new ..) c2 ?_
        have I2 : Inv X pins σ H1 { s1 with heap := s1.heap.push { cls := .type "range", data := .fields #[.int i t, .int j t', .int k t''] } } := I1.kept (t' := s1.toks) fun b o e => Heap.get?_push_of_some _ e
        refine pi_one (tk := s1.toks) I2 _ (turn_rangeC _ i k n) ?_ q
        have e1 : i + ((0 : Nat) : Int) * k = i := by simp
        have e2 : (n : Int) - ((0 : Nat) : Int) = Builtin.Range.rangeSize i j k := by rw [c3]; simp
        show IsRangeIter _ _ (i + ((0 : Nat) : Int) * k) ((n : Int) - ((0 : Nat) : Int)) k
        rw [e1, e2]
        exact Heap.get?_push_size _ rfl
end
section
variable {X : Cx} {tg : Expr}
end
section
variable {prog : Program} {w : World} {A : Around} {E : Value → Shared → Prop} {s : Shared}
end
theorem kv_get {κ : Type} {kvs : List (κ × V)} {vs : List (κ × Value)} (h : KV kvs vs) : ∀ {i : Nat} {k : κ} {v : V}, kvs[i]? = some (k, v) → ∃ u, vs[i]? = some (k, u) ∧ RelV v u := by
  unfold KV at h
  induction h with
  | nil => intro i k v e; simp at e
  | @cons a b l₁ l₂ r t ih =>
    intro i k v e
    cases i with
    | zero =>
      simp only [List.getElem?_cons_zero, Option.some.injEq] at e
      subst e
      refine ⟨b.2, ?_, r.2⟩
      simp only [List.getElem?_cons_zero]
      exact congrArg some (Prod.ext r.1.symm rfl)
    | succ j =>
      simp only [List.getElem?_cons_succ] at e ⊢
      exact ih e
theorem relV_key {k : Key} {u : Value} (h : keyIs k u = true) : RelV (kV k) u := by
  rcases keyIs_shape h with ⟨i, t, rfl, rfl⟩ | ⟨x, t, rfl, rfl⟩
  · exact ⟨t, rfl⟩
  · exact ⟨t, rfl⟩
section
variable {X : Cx} {pins : List (Addr × Obj)} {σ : St} {H : Hp} {s : Shared} {d : Addr} {o : Obj}
theorem Inv.frzK {kvs : List (Key × V)} (I : Inv X pins σ H s) (h : H d = some (.frz o (.dK kvs))) :
    (d == sysModules) = false ∧ s.heap.get? d = some o ∧ o.ExactDict ∧ ∃ (es : Array DictEntry) (ep : Nat) (vs : List (Key × Value)), o.data = .dict es ep ∧ es.size = kvs.length ∧ KV kvs vs ∧ s.heap.DictAt (mixKind X.prog X.w) d vs ep := by
  obtain ⟨hd, z, hs, vs, kv, o', es, ep, ho, hx, hdt, r⟩ := I.hok d _ h
  rw [hd] at ho
  cases ho
  refine ⟨hs, hd, hx, es, ep, vs, hdt, ?_, kv, o, es, hd, hx, hdt, r⟩
  have l1 := r.2.1.length
  have l2 : kvs.length = vs.length := Paired.length kv
  rw [Array.length_toList] at l1
  omega
end
def Itd (d : Addr) (o : Obj) (kvs : List (Key × V)) : It :=
  ⟨fun i H => H d = some (.frz o (.dK kvs)) ∧ i < kvs.length, fun i H x H' => H' = H ∧ ∃ k, kvs[i]? = some (k, x), fun i H => H d = some (.frz o (.dK kvs)) ∧ kvs.length ≤ i⟩
def Iti (d : Addr) (o : Obj) (kvs : List (Key × V)) : It :=
  ⟨fun i H => H d = some (.frz o (.dK kvs)) ∧ i < kvs.length, fun i H x H' => ∃ T k v, kvs[i]? = some (k, v) ∧ x = .ref T ∧ H T = none ∧ H' = upd H T (.tup [kV k, v]), fun i H => H d = some (.frz o (.dK kvs)) ∧ kvs.length ≤ i⟩
theorem dict_ep {o : Obj} {es es' : Array DictEntry} {ep ep' : Nat} (h : o.data = .dict es ep) (h' : o.data = .dict es' ep') : es' = es ∧ ep' = ep := by
  rw [h] at h'
  cases h'
  exact ⟨rfl, rfl⟩
section
variable {P : Program} {w : World} {K : PySem.W.Frag} {tg : Expr} {d : Addr} {o : Obj} {es : Array DictEntry} {ep : Nat}
theorem turn_vals {kvs : List (Key × V)} (it : Addr) (hod : o.data = .dict es ep) : Turn P w K tg (Itd d o kvs) [it] it (fun i h => h.IsValIter it d i kvs.length ep) where
  mem := by simp
  obj := fun i h st b hb => by
    have e : b = it := by simpa using hb
    subst e
    obtain ⟨oi, e, c, dd⟩ := st
    exact ⟨oi, e, fun v z => by rw [dd] at z; cases z⟩
  keep := fun i h h' st k => st.at fun oi e => k it (by simp) oi e
  item := by
    intro X hP hw hK hc i pins s σ H E I hf st hg
    subst hP hw hK
    obtain ⟨hd, hi⟩ := hg
    obtain ⟨f0, f1, f2, f3, f4, f5⟩ := hf it (by simp)
    obtain ⟨hs, hgd, hx, es', ep', vs, hdt, hsz, kv, hm⟩ := I.frzK hd
    obtain ⟨rfl, rfl⟩ := dict_ep hod hdt
    obtain ⟨⟨k, v⟩, hkv⟩ : ∃ p, kvs[i]? = some p := ⟨kvs[i], List.getElem?_eq_getElem hi⟩
    obtain ⟨u, hu, ru⟩ := kv_get kv hkv
    have hl : kvs.length = vs.length := Paired.length kv
    rw [hl] at st
    refine wpAny_pyNext_values_item st hm hu fun h' st' sb => ?_
    have I1 : Inv X pins σ H { s with heap := h' } := I.turned (t' := s.toks) (fun b ob hb e => (sb.2 b hb).trans e) f0 f1 f3 f4 f5
    obtain ⟨oi, e, c, dd⟩ := id st'
    refine ⟨u, rfl, go_of (s := { s with heap := h' }) e c dd (by decide) ⟨v, H, I1, ru, ⟨rfl, k, hkv⟩, ?_, fun b hb => (hf b hb).1⟩⟩
    show h'.IsValIter it d (i + 1) kvs.length _
    rw [hl]
    exact st'
  done := by
    intro X hP hw hK hc i pins s σ H E I hf st hg
    subst hP hw hK
    obtain ⟨hd, hi⟩ := hg
    obtain ⟨f0, f1, f2, f3, f4, f5⟩ := hf it (by simp)
    obtain ⟨hs, hgd, hx, es', ep', vs, hdt, hsz, kv, hm⟩ := I.frzK hd
    obtain ⟨rfl, rfl⟩ := dict_ep hod hdt
    have hl : kvs.length = vs.length := Paired.length kv
    rw [hl] at st
    exact wpAny_pyNext_values_end (I.ok.hd hc) st hm (List.getElem?_eq_none (by omega)) fun h' eb => ⟨rfl, I.turned (t' := s.toks) (fun b ob hb e => eb b ob hb e) f0 f1 f3 f4 f5⟩
  self := fun A i s Q E st h => wpAny_pyIter_valiter st h
theorem turn_items {kvs : List (Key × V)} {elts : List Expr} {kk : Nat} {tpos : Pos} (it : Addr) (hod : o.data = .dict es ep) :
    Turn P w K (.Tuple elts kk tpos) (Iti d o kvs) [it] it (fun i h => ∃ ok ov, IsItemIter h it d i kvs.length ep ok ov) where
  mem := by simp
  obj := fun i h st b hb => by
    have e : b = it := by simpa using hb
    subst e
    obtain ⟨ok, ov, e⟩ := st
    exact ⟨_, e, fun v z => nomatch z⟩
  keep := fun i h h' st k => let ⟨ok, ov, e⟩ := st; ⟨ok, ov, k it (by simp) _ e⟩
  item := by
    intro X hP hw hK hc i pins s σ H E I hf st hg
    subst hP hw hK
    obtain ⟨hd, hi⟩ := hg
    obtain ⟨hs, hgd, hx, es', ep', vs, hdt, hsz, kv, hm⟩ := I.frzK hd
    obtain ⟨rfl, rfl⟩ := dict_ep hod hdt
    obtain ⟨⟨k, v⟩, hkv⟩ : ∃ p, kvs[i]? = some p := ⟨kvs[i], List.getElem?_eq_getElem hi⟩
    obtain ⟨u, hu, ru⟩ := kv_get kv hkv
    have hl : kvs.length = vs.length := Paired.length kv
    obtain ⟨ok, ov, he⟩ := st
    rw [hl] at he
    have hlt : it < s.heap.objs.size := Heap.lt_size he
    refine wpAny_pyNext_items_item he hm hu fun key h' hkey ho hT hz hk => ?_
    refine ⟨_, rfl, wpAny_letOwnedTupleGo_items (s := { s with heap := h' }) ho fun h'' he' sb => ?_⟩
    have hT2 : h''.get? s.heap.objs.size = some { cls := .type "tuple", data := .seq #[key, u] } := (sb.2 _ (Nat.ne_of_gt hlt)).trans hT
    have new : ObjOk X.prog X.w (upd H s.heap.objs.size (.tup [kV k, v])) h'' s.heap.objs.size (.tup [kV k, v]) :=
      ⟨by show 2 ≤ sizeLine; decide, [key, u], .cons (relV_key (show keyIs k key = true from hkey)) (.cons ru .nil), ⟨_, hT2, rfl, _, rfl⟩⟩
    have I1 : Inv X pins σ (upd H s.heap.objs.size (.tup [kV k, v])) { s with heap := h'' } :=
      I.turnedNew (t' := s.toks) (ch := [it]) (fun b ob hb e => (sb.2 b (by simpa using hb)).trans (hk b ob (by simpa using hb) e)) hf (Nat.le_refl _) new
    refine ⟨.ref s.heap.objs.size, _, I1, rfl, ⟨_, k, v, hkv, rfl, I.hok.fresh (Nat.le_refl _), rfl⟩, ⟨key, u, ?_⟩, fun b hb => ?_⟩
    · rw [hl]; exact he'
    · have e : b = it := by simpa using hb
      rw [e, upd_ne (Nat.ne_of_lt hlt)]
      exact (hf it (by simp)).1
  done := by
    intro X hP hw hK hc i pins s σ H E I hf st hg
    subst hP hw hK
    obtain ⟨hd, hi⟩ := hg
    obtain ⟨f0, f1, f2, f3, f4, f5⟩ := hf it (by simp)
    obtain ⟨hs, hgd, hx, es', ep', vs, hdt, hsz, kv, hm⟩ := I.frzK hd
    obtain ⟨rfl, rfl⟩ := dict_ep hod hdt
    have hl : kvs.length = vs.length := Paired.length kv
    obtain ⟨ok, ov, he⟩ := st
    rw [hl] at he
    exact wpAny_pyNext_items_end (I.ok.hd hc) he hm (List.getElem?_eq_none (by omega)) fun h' eb => ⟨rfl, I.turned (t' := s.toks) (fun b ob hb e => eb b ob hb e) f0 f1 f3 f4 f5⟩
  self := fun A i s Q E st h => let ⟨_, _, e⟩ := st; PySem.W.kcp_self e h
end
def iItems (td : TE) : TI := fun σ H R => td σ H fun x H1 => ∃ d o kvs, x = .ref d ∧ H1 d = some (.frz o (.dK kvs)) ∧ R (Iti d o kvs) H1
section
variable {X : Cx} {tg e : Expr} {td : TE} {apos cpos : Pos}
theorem pi_items {elts : List Expr} {kk : Nat} {tpos : Pos} (he : PE X e td) (hbase : attributeBase e "items" X.env (eval e X.env) = eval e X.env := by rfl) (hline : (apos.endLine == cpos.line) = true := by rfl) :
    PI X (.Tuple elts kk tpos) (.Call (.Attribute e "items" apos) [] [] cpos) (iItems td) := by
  intro pins s σ H R I h
  refine wpAny_Call_method (T := "dict") (id := "dict.items") hbase rfl hline F.plainAttrs_dict F.slot_dict_items F.type_dict_items (thn (he pins s σ H _ I h) fun u s1 ⟨x, H1, I1, rx, d, o, kvs, ex, hd, q⟩ => ?_)
  subst ex
  obtain rfl : u = Value.ref d := rx
  obtain ⟨hs, hgd, hx, es, ep, vs, hdt, hsz, kv, hm⟩ := I1.frzK hd
  have hl : kvs.length = vs.length := Paired.length kv
  refine ⟨hm.dictOf.typeIs, hm.dictOf.mapOf.noDict, ?_⟩
  have I2 : Inv X pins σ H1 { s1 with heap := s1.heap.push { cls := .type "dict_items", data := .fields #[.ref d] } } := I1.kept (t' := s1.toks) fun b ob q => Heap.get?_push_of_some _ q
  have fin : wpAny (model X.prog X.w) X.A (pyIter (.ref s1.heap.objs.size)) (PIE X pins σ (.Tuple elts kk tpos) R) X.xe { s1 with heap := s1.heap.push { cls := .type "dict_items", data := .fields #[.ref d] } } := by
    refine wpAny_pyIter_items (d := d) (knd := mixKind X.prog X.w) ⟨_, Heap.get?_push_size _ rfl, rfl, rfl⟩ (hm.push _) (pi_one (tk := s1.toks) I2 _ (turn_items _ hdt) ⟨.none, .none, ?_⟩ q)
    rw [hl]
    exact Heap.get?_push_size _ rfl
  show wpAny _ _ (callWith cpos (.builtin "dict.items") [.ref d] [] []) _ X.xe s1
  exact method_meetsIn F.slot_dict_items F.entry_dict_items rfl (PySem.evalArgs_none ⟨rfl, hm.dictOf.typeIs, F.args_dict_items_1 _, _, meets_dict_items (mixKind X.prog X.w) d hs, ⟨vs, hm.dictOf⟩, fin⟩)
end
end L2
section 
namespace Bits
open PySem PyProof.Rows
end Bits
end 
section 
namespace TL
open PySem PySem.Builtin PySem.Builtin.Str PySem.StrLaws
abbrev tl (x : Str) : List Nat := x.cps.toList
theorem len_tl (x : Str) : x.length = (tl x).length := by simp [tl, Str.length]
def pre (S l : List Nat) : Bool := l.take S.length == S
def par (S : List Nat) : List Nat → List Nat → Option (List Nat × List Nat)
  | _, [] => none
  | acc, c :: r => if pre S (c :: r) = true then some (acc, (c :: r).drop S.length) else par S (acc ++ [c]) r
theorem len1 {y : Str} (hy : tl y ≠ []) : 1 ≤ y.length := by
  have e2 : 0 < (tl y).length := List.length_pos_iff.mpr hy
  rw [len_tl y]
  exact e2
end TL
end 
namespace L2
open PySem PySem.Spec PyProof.Rows
section
variable {X : Cx} {pins : List (Addr × Obj)} {σ : St} {H : Hp} {s : Shared} {Q : VK}
end
section
variable {X : Cx}
end
section
variable {X : Cx} {o e : Expr} {to te : TE}
end
end L2
namespace L2
open PySem PySem.Spec PyProof.Rows
section
variable {X : Cx}
end
end L2
namespace Att
open PySem PySem.W PySem.Calls PyProof.Rows
section
variable {prog : Program} {w : World} {A : Around} {E : Value → Shared → Prop} {s : Shared} {K : Frag}
end
end Att
namespace L2
open PySem PySem.Spec PyProof.Rows
end L2
namespace L2
open PySem PySem.Spec PyProof.Rows
abbrev KOf {K : PySem.W.Frag} {h : Heap} (_ : K.In h) : PySem.W.Frag := K
end L2
namespace L2
open PySem PySem.Spec PyProof.Rows
def inClass (s : Stmt) (j : Nat) : Stmt := match s with
  | .ClassDef _ _ _ body _ _ _ _ _ _ _ => body.getD j (.Pass ⟨0, 0, 0, 0⟩)
  | _ => .Pass ⟨0, 0, 0, 0⟩
def defArgs (s : Stmt) : Arguments := match s with
  | .FunctionDef _ a _ _ _ _ _ _ _ _ => a
  | _ => { posonlyargs := [], args := [], vararg := none, kwonlyargs := [], kw_defaults := [], kwarg := none, defaults := [] }
def defBody (s : Stmt) : List Stmt := match s with
  | .FunctionDef _ _ b _ _ _ _ _ _ _ => b
  | _ => []
def defScope (s : Stmt) : Scope := match s with
  | .FunctionDef _ _ _ _ _ _ sc _ _ _ => sc
  | _ => { kind := .function, names := [], isGenerator := false, isCoroutine := false }
abbrev CX0 : CXT := fun _ _ _ _ _ _ => False
abbrev E0 : XK := fun _ _ _ => False
theorem pass0 {X : Cx} : Passes CX0 X E0 := fun _ _ _ _ _ _ _ h => h.elim
structure Fun (K : PySem.W.Frag) (x qual : Str) (st : Stmt) (f : Addr) (fd : FuncData) : Prop where
  ex : ∃ (oc : Value) (od : Option Addr) (kV doc pm : Value) (an : Option Addr) (cdv ct : Value) (osl : Array (Option Value)),
    fd = PySem.W.fnOf x qual (defArgs st) (defBody st) (defScope st) .none kV doc pm an cdv ct ∧ K.lookup f = some ⟨oc, od, .func fd, osl⟩ ∧ PySem.W.codeIn K cdv qual = true
  kp : PySem.W.keepIn K (.ref f) = true
section
variable {P : Program} {w : World} {K : PySem.W.Frag} {mg : Str → Option Value} {base : Heap}
theorem Fun.ok {x qual : Str} {st : Stmt} {f : Addr} {fd : FuncData} {N ps : List Str} {k : Nat} {sp : Sp} (F : Fun K x qual st f fd) (S : FnScope N ps (defScope st)) (len : ∀ vs H Q E, sp vs H Q E → vs.length = ps.length)
    (hbody : ∀ (cdv : Value) (A : Around) (outer : List Env) (s : Shared) (H : Hp) (vs : List V) (Q : VK) (E : XK), Room k (A.deeper (envOfC qual (defScope st) s.heap.objs.size f cdv)) → sp vs H Q E →
      ∃ t, PSs (cxOf CX0 P w K mg base N qual (defScope st) f cdv A outer s H E).nox (defBody st) t ∧ t { nx := fun _ H' => Q .non H', rt := Q } (start N vs) H) : FnOk P w K mg base CX0 (k + 1) f fd ps sp := by
  obtain ⟨oc, od, kV, doc, pm, an, cdv, ct, osl, rfl, lk, hcd⟩ := F.ex
  refine fn_of lk hcd S len fun A outer s H vs Q E hr hsp => ?_
  obtain ⟨t, h, q⟩ := hbody cdv A outer s H vs Q E hr hsp
  exact ⟨t, h.nox, q⟩
theorem Fun.binds {x qual : Str} {st : Stmt} {f : Addr} {fd : FuncData} {ps : List Str} (F : Fun K x qual st f fd)
    (h : ∀ (kV doc pm : Value) (an : Option Addr) (cdv ct : Value) (us : List Value), us.length = ps.length → bindArgs (PySem.W.fnOf x qual (defArgs st) (defBody st) (defScope st) .none kV doc pm an cdv ct) ⟨us, []⟩ = pure (ps.zip us)) : Binds K fd ps [] := by
  obtain ⟨oc, od, kV, doc, pm, an, cdv, ct, osl, rfl, lk, hcd⟩ := F.ex
  exact .all (h kV doc pm an cdv ct)
theorem fun_mk {x qual : Str} {st : Stmt} {f : Addr} {oc : Value} {od an : Option Addr} {osl : Array (Option Value)} {kV doc pm cdv ct : Value} (l : K.lookup f = some ⟨oc, od, .func (PySem.W.fnOf x qual (defArgs st) (defBody st) (defScope st) .none kV doc pm an cdv ct), osl⟩)
    (c : PySem.W.codeIn K cdv qual = true) (k : PySem.W.keepIn K (.ref f) = true) : Fun K x qual st f (PySem.W.fnOf x qual (defArgs st) (defBody st) (defScope st) .none kV doc pm an cdv ct) := ⟨⟨oc, od, kV, doc, pm, an, cdv, ct, osl, rfl, l, c⟩, k⟩
end
theorem hu_of {A : Around} {k : Nat} (hr : Room k A) : A.units + 1 < cLine := Nat.lt_of_le_of_lt (Nat.add_le_add_left (by decide : 1 ≤ 64) _) hr.units
section
variable {X : Cx}
theorem call_lenD : CallR X (.builtin "len") (fun xs H Q => ∃ a kvs, xs = [V.ref a] ∧ H a = some (.dK kvs) ∧ Q (.int kvs.length) H) := by
  intro pins s σ H xs us Q I r h
  obtain ⟨a, kvs, rfl, ha, q⟩ := h
  obtain ⟨u, rfl, ru⟩ := vals1 r
  cases ru
  exact d_len I (.inl ha) fun t s' I' => ⟨.int kvs.length, H, I', ⟨t, rfl⟩, q⟩
end
def Same (H H' : Hp) : Prop := ∀ b o, H b = some o → H' b = some o
theorem Same.refl (H : Hp) : Same H H := fun _ _ h => h
theorem Same.trans {H H1 H2 : Hp} (a : Same H H1) (b : Same H1 H2) : Same H H2 := fun c o h => b c o (a c o h)
theorem Same.free {H H' : Hp} (e : Same H H') {l : Addr} (h : H' l = Option.none) : H l = Option.none := by
  cases q : H l with
  | none => rfl
  | some o =>
    rw [e l o q] at h
    cases h
theorem Same.seq {K : PySem.W.Frag} {H H' : Hp} {a : Addr} {xs : List V} (e : Same H H') (h : SqL K H a xs) : SqL K H' a xs := by
  rcases h with (h | ⟨o, h⟩) | h
  · exact .inl (.inl (e _ _ h))
  · exact .inl (.inr ⟨o, e _ _ h⟩)
  · exact .inr h
section
variable {κ : Type} [DecidableEq κ]
theorem dropK_pos {p : κ × V} {r : List (κ × V)} {k : κ} (e : p.1 = k) : dropK (p :: r) k = dropK r k := by
  unfold dropK
  rw [List.filter_cons, if_neg (by simp [e])]
theorem dropK_neg {p : κ × V} {r : List (κ × V)} {k : κ} (e : ¬ p.1 = k) : dropK (p :: r) k = p :: dropK r k := by
  unfold dropK
  rw [List.filter_cons, if_pos (by simp [e])]
theorem dropK_no : ∀ {kvs : List (κ × V)} {k : κ}, ¬ k ∈ kvs.map (·.1) → dropK kvs k = kvs
  | [], _, _ => rfl
  | p :: r, k, h => by
    have h' : ¬ k ∈ r.map (·.1) := fun m => by
      obtain ⟨q, hq, e⟩ := List.mem_map.mp m
      exact h (List.mem_map.mpr ⟨q, List.mem_cons.mpr (Or.inr hq), e⟩)
    rw [dropK_neg fun e => h (List.mem_map.mpr ⟨p, List.mem_cons.mpr (Or.inl rfl), e⟩), dropK_no h']
end
theorem at_of {xs : List V} {z : Int} {j : Nat} {v : V} (e : z = (j : Int)) (h : xs[j]? = some v) : atI xs z = some v := by
  rw [e]
  exact atI_nat h
theorem nd_ix {α : Type} {l : List α} (hN : l.Nodup) {i j : Nat} {x : α} (a : l[i]? = some x) (b : l[j]? = some x) : i = j := by
  obtain ⟨h1, e1⟩ := List.getElem?_eq_some_iff.mp a
  obtain ⟨h2, e2⟩ := List.getElem?_eq_some_iff.mp b
  exact (List.getElem_inj hN).mp (e1.trans e2.symm)
end L2
set_option maxHeartbeats 2000000
namespace L2
open PySem PySem.Spec PyProof.Rows
open PySem.W (WData Codec OpenSpec Well WellAll ReadsW ReadsAllW)
mutual
inductive Dw (K : PySem.W.Frag) (H : Hp) : V → WData → Prop
  | non : Dw K H .non .none
  | bl (b : Bool) : Dw K H (.bl b) (.bool b)
  | int (i : Int) : Dw K H (.int i) (.int i)
  | str (x : Str) : Dw K H (.str x) (.str x)
  | byt (b : Array UInt8) : Dw K H (.byt b) (.bytes b.toList)
  | lst {a : Addr} {xs : List V} {ds : List WData} : SqL K H a xs → DwAll K H xs ds → Dw K H (.ref a) (.list ds)
  | tup {a : Addr} {xs : List V} {ds : List WData} : SqT K H a xs → DwAll K H xs ds → Dw K H (.ref a) (.tuple ds)
inductive DwAll (K : PySem.W.Frag) (H : Hp) : List V → List WData → Prop
  | nil : DwAll K H [] []
  | cons {v : V} {vs : List V} {d : WData} {ds : List WData} : Dw K H v d → DwAll K H vs ds → DwAll K H (v :: vs) (d :: ds)
end
theorem dw_ints {K : PySem.W.Frag} {H : Hp} : ∀ ns : List Int, DwAll K H (ns.map V.int) (ns.map WData.int)
  | [] => .nil
  | n :: r => .cons (.int n) (dw_ints r)
theorem ints_dw {K : PySem.W.Frag} {H : Hp} : ∀ (ns : List Int) (xs : List V), DwAll K H xs (ns.map WData.int) → xs = ns.map V.int
  | [], xs, h => by
    cases h
    rfl
  | n :: r, xs, h => by
    cases h with
    | cons h1 h2 =>
      cases h1
      rw [ints_dw r _ h2] <;> rfl
section
variable {P : Program} {w : World} {K : PySem.W.Frag} {H : Hp} {h : Heap} {R : PySem.W.WRecords} {cl : Str → Option Addr}
theorem sqL_at {a : Addr} {xs : List V} (hok : HOk P w H h) (KX : K.In h) (q : SqL K H a xs) : ∃ (its : List Value) (o : Obj) (n : Nat), Vals xs its ∧ h.get? a = some o ∧ o.cls = .type "list" ∧ o.data = .seq its.toArray n := by
  rcases q with q | ⟨o, its, n, e, hc, _, hd, _, hv⟩
  · obtain ⟨_, its, n, hv, e⟩ := (show ObjOk P w H h a (.lst xs) from q.ok hok)
    exact ⟨its, _, n, hv, e, rfl, rfl⟩
  · exact ⟨its.toList, o, n, hv, KX _ _ e, hc, by simp [hd]⟩
theorem sqT_at {a : Addr} {xs : List V} (hok : HOk P w H h) (KX : K.In h) (q : SqT K H a xs) : ∃ (its : List Value) (o : Obj) (n : Nat), Vals xs its ∧ h.get? a = some o ∧ o.cls = .type "tuple" ∧ o.data = .seq its.toArray n := by
  rcases q with q | ⟨o, its, n, e, hc, hd, _, hv⟩
  · obtain ⟨_, its, hv, o, e, hc, n, hd⟩ := (show ObjOk P w H h a (.tup xs) from q.ok hok)
    exact ⟨its, o, n, hv, e, hc, hd⟩
  · exact ⟨its.toList, o, n, hv, KX _ _ e, hc, by simp [hd]⟩
mutual
theorem Dw.reads (hok : HOk P w H h) (KX : K.In h) : ∀ (d : WData) (v : V) (u : Value), Dw K H v d → RelV v u → ∃ as, ReadsW R cl h u d as
  | .none, _, _, x, r => by
    cases x
    cases r
    exact ⟨_, ReadsW.none⟩
  | .bool b, _, _, x, r => by
    cases x
    cases r
    exact ⟨_, ReadsW.bool b⟩
  | .int i, _, _, x, r => by
    cases x
    obtain ⟨t, rfl⟩ := r
    exact ⟨_, ReadsW.int i t⟩
  | .str s, _, _, x, r => by
    cases x
    obtain ⟨t, rfl⟩ := r
    exact ⟨_, ReadsW.str s t⟩
  | .bytes b, _, _, x, r => by
    cases x
    obtain ⟨t, rfl⟩ := r
    exact ⟨_, ReadsW.bytes _ t⟩
  | .list ds, _, _, x, r => by
    cases x with
    | lst hs ha =>
      cases r
      obtain ⟨its, o, n, rv, ho, hc, hd⟩ := sqL_at hok KX hs
      obtain ⟨as, hr⟩ := Dw.readsAll hok KX ds _ its ha rv
      exact ⟨_, ReadsW.list ho hc hd hr⟩
  | .tuple ds, _, _, x, r => by
    cases x with
    | tup hs ha =>
      cases r
      obtain ⟨its, o, n, rv, ho, hc, hd⟩ := sqT_at hok KX hs
      obtain ⟨as, hr⟩ := Dw.readsAll hok KX ds _ its ha rv
      exact ⟨_, ReadsW.tuple ho hc hd hr⟩
  | .float _, _, _, x, _ => by cases x
  | .dict _, _, _, x, _ => by cases x
  | .bytearray _, _, _, x, _ => by cases x
  | .set _, _, _, x, _ => by cases x
  | .frozenset _, _, _, x, _ => by cases x
  | .obj _ _, _, _, x, _ => by cases x
theorem Dw.readsAll (hok : HOk P w H h) (KX : K.In h) : ∀ (ds : List WData) (vs : List V) (us : List Value), DwAll K H vs ds → Vals vs us → ∃ as, ReadsAllW R cl h us ds as
  | [], _, _, x, r => by
    cases x
    cases r
    exact ⟨_, ReadsAllW.nil⟩
  | d :: ds, _, _, x, r => by
    cases x with
    | cons h1 h2 =>
      cases r with
      | cons r1 r2 =>
        obtain ⟨as, q1⟩ := Dw.reads hok KX d _ _ h1 r1
        obtain ⟨bs, q2⟩ := Dw.readsAll hok KX ds _ _ h2 r2
        exact ⟨_, ReadsAllW.cons q1 q2⟩
end
end
mutual
def plW : WData → Bool
  | .none => true
  | .bool _ => true
  | .int _ => true
  | .str _ => true
  | .bytes _ => true
  | .list xs => plWs xs
  | .tuple xs => plWs xs
  | _ => false
def plWs : List WData → Bool
  | [] => true
  | x :: r => plW x && plWs r
end
theorem plWs_map {α : Type} {f : α → WData} (h : ∀ a, plW (f a) = true) : ∀ l : List α, plWs (l.map f) = true
  | [] => rfl
  | x :: r => by
    show (plW (f x) && plWs (r.map f)) = true
    rw [h x, plWs_map h r] <;> rfl
theorem pl_enc : ∀ (c : Codec) (a : c.denote), plW (c.enc a) = true
  | .unit, _ => rfl
  | .bool, _ => rfl
  | .int _ _, _ => rfl
  | .nat _ _, _ => rfl
  | .u8, _ => rfl
  | .bytes _ _, _ => rfl
  | .text _ _ _ _, _ => rfl
  | .list _ _ c, a => plWs_map (fun x => pl_enc c x) a
  | .pair c d, a => by
    show (plW (c.enc a.1) && (plW (d.enc a.2) && true)) = true
    rw [pl_enc c a.1, pl_enc d a.2] <;> rfl
  | .triple c d e, a => by
    show (plW (c.enc a.1) && (plW (d.enc a.2.1) && (plW (e.enc a.2.2) && true))) = true
    rw [pl_enc c a.1, pl_enc d a.2.1, pl_enc e a.2.2] <;> rfl
  | .option c, none => rfl
  | .option c, some x => pl_enc c x
theorem pl_encAll : ∀ (cs : List Codec) (a : Codec.denoteAll cs), plWs (Codec.encAll cs a) = true
  | [], _ => rfl
  | c :: cs, a => by
    show (plW (c.enc a.1) && plWs (Codec.encAll cs a.2)) = true
    rw [pl_enc c a.1, pl_encAll cs a.2] <;> rfl
theorem weight_mem : ∀ {xs : List WData} {d : WData}, d ∈ xs → d.weight ≤ WData.weightAll xs
  | [], d, h => absurd h (by simp)
  | x :: r, d, h => by
    show d.weight ≤ x.weight + 1 + WData.weightAll r
    rcases List.mem_cons.mp h with e | m
    · rw [e]
      omega
    · have z := weight_mem m
      omega
def toV : Value → V
  | .none => .non
  | .bool b => .bl b
  | .int i _ => .int i
  | .str x _ => .str x
  | .bytes b _ => .byt b
  | .ref a => .ref a
  | _ => .non
def OkU (A : List Addr) : Value → Prop
  | .none => True
  | .bool _ => True
  | .int _ _ => True
  | .str _ _ => True
  | .bytes _ _ => True
  | .ref a => a ∈ A
  | _ => False
theorem OkU.mono {A B : List Addr} (h : ∀ a ∈ A, a ∈ B) : ∀ {u : Value}, OkU A u → OkU B u := fun {u} x => by
  cases u with
  | ref a => exact h a x
  | none => trivial
  | bool b => trivial
  | int i t => trivial
  | str s t => trivial
  | bytes b t => trivial
  | _ => exact False.elim x
theorem relV_toV {A : List Addr} {u : Value} (x : OkU A u) : RelV (toV u) u := by
  cases u with
  | ref a => rfl
  | none => rfl
  | bool b => rfl
  | int i t => exact ⟨t, rfl⟩
  | str s t => exact ⟨t, rfl⟩
  | bytes b t => exact ⟨t, rfl⟩
  | _ => exact False.elim x
theorem vals_toV {A : List Addr} : ∀ {vs : List Value}, (∀ u ∈ vs, OkU A u) → Vals (vs.map toV) vs
  | [], _ => .nil
  | u :: r, h => .cons (relV_toV (h u (List.mem_cons_self ..))) (vals_toV fun x hx => h x (List.mem_cons_of_mem _ hx))
def ArgOb (h : Heap) (A : List Addr) (a : Addr) : Prop := ∃ vs : List Value, vs.length ≤ sizeLine ∧ (∀ u ∈ vs, OkU A u) ∧
  (h.get? a = some { cls := .type "list", data := .seq vs.toArray } ∨ h.get? a = some { cls := .type "tuple", data := .seq vs.toArray })
theorem ArgOb.mono {h : Heap} {A B : List Addr} {a : Addr} (k : ∀ a ∈ A, a ∈ B) (x : ArgOb h A a) : ArgOb h B a := by
  obtain ⟨vs, h1, h2, h3⟩ := x
  exact ⟨vs, h1, fun u hu => (h2 u hu).mono k, h3⟩
theorem wellAll_len {P : Params} {h : Heap} : ∀ {vs : List Value} {ds : List WData}, WellAll P h vs ds → vs.length = ds.length
  | _, _, .nil => rfl
  | _, _, .cons _ b => by
    show _ + 1 = _ + 1
    rw [wellAll_len b]
theorem well_list {P : Params} {h : Heap} {v : Value} {ds : List WData} (x : Well P h v (.list ds)) : ∃ (a : Addr) (vs : List Value), v = .ref a ∧ h.get? a = some { cls := .type "list", data := .seq vs.toArray } ∧ WellAll P h vs ds := by
  cases x with
  | list ho hall => exact ⟨_, _, rfl, ho, hall⟩
theorem well_tuple {P : Params} {h : Heap} {v : Value} {ds : List WData} (x : Well P h v (.tuple ds)) : ∃ (a : Addr) (vs : List Value), v = .ref a ∧ h.get? a = some { cls := .type "tuple", data := .seq vs.toArray } ∧ WellAll P h vs ds := by
  cases x with
  | tuple ho hall => exact ⟨_, _, rfl, ho, hall⟩
theorem well_cons {P : Params} {h : Heap} {us : List Value} {d : WData} {ds : List WData} (x : WellAll P h us (d :: ds)) : ∃ (v : Value) (vs : List Value), us = v :: vs ∧ Well P h v d ∧ WellAll P h vs ds := by
  cases x with
  | cons a b => exact ⟨_, _, rfl, a, b⟩
theorem line_of {n : Nat} (h : n ≤ 1048576) : n ≤ sizeLine := Nat.le_trans h (by decide)
section
variable {P : Params} {h : Heap}
mutual
theorem area_one : ∀ (d : WData) (v : Value), Well P h v d → plW d = true → d.weight ≤ 1048576 → ∃ A : List Addr, OkU A v ∧ ∀ a ∈ A, ArgOb h A a
  | .none, _, x, _, _ => by
    cases x
    exact ⟨[], trivial, fun a m => absurd m (by simp)⟩
  | .bool b, _, x, _, _ => by
    cases x
    exact ⟨[], trivial, fun a m => absurd m (by simp)⟩
  | .int i, _, x, _, _ => by
    cases x
    exact ⟨[], trivial, fun a m => absurd m (by simp)⟩
  | .str s, _, x, _, _ => by
    cases x
    exact ⟨[], trivial, fun a m => absurd m (by simp)⟩
  | .bytes b, _, x, _, _ => by
    cases x
    exact ⟨[], trivial, fun a m => absurd m (by simp)⟩
  | .list ds, _, x, p, z => by
    obtain ⟨a, vs, rfl, ho, hall⟩ := well_list x
    have z2 : WData.weightAll ds ≤ 1048576 := z
    obtain ⟨A, h1, h2⟩ := area_all ds _ hall p fun d hd => Nat.le_trans (weight_mem hd) z2
    have k : ∀ b ∈ A, b ∈ a :: A := fun b hb => List.mem_cons_of_mem _ hb
    refine ⟨a :: A, List.mem_cons_self .., fun b hb => ?_⟩
    rcases List.mem_cons.mp hb with e | m
    · rw [e]
      exact ⟨vs, line_of (by rw [wellAll_len hall]; exact Nat.le_trans (PySem.W.length_le_weightAllW ds) z2), fun u hu => (h1 u hu).mono k, .inl ho⟩
    · exact (h2 b m).mono k
  | .tuple ds, _, x, p, z => by
    obtain ⟨a, vs, rfl, ho, hall⟩ := well_tuple x
    have z2 : WData.weightAll ds ≤ 1048576 := z
    obtain ⟨A, h1, h2⟩ := area_all ds _ hall p fun d hd => Nat.le_trans (weight_mem hd) z2
    have k : ∀ b ∈ A, b ∈ a :: A := fun b hb => List.mem_cons_of_mem _ hb
    refine ⟨a :: A, List.mem_cons_self .., fun b hb => ?_⟩
    rcases List.mem_cons.mp hb with e | m
    · rw [e]
      exact ⟨vs, line_of (by rw [wellAll_len hall]; exact Nat.le_trans (PySem.W.length_le_weightAllW ds) z2), fun u hu => (h1 u hu).mono k, .inr ho⟩
    · exact (h2 b m).mono k
  | .float _, _, _, p, _ => Bool.noConfusion (show false = true from p)
  | .dict _, _, _, p, _ => Bool.noConfusion (show false = true from p)
  | .bytearray _, _, _, p, _ => Bool.noConfusion (show false = true from p)
  | .set _, _, _, p, _ => Bool.noConfusion (show false = true from p)
  | .frozenset _, _, _, p, _ => Bool.noConfusion (show false = true from p)
  | .obj _ _, _, _, p, _ => Bool.noConfusion (show false = true from p)
theorem area_all : ∀ (ds : List WData) (vs : List Value), WellAll P h vs ds → plWs ds = true → (∀ d ∈ ds, d.weight ≤ 1048576) → ∃ A : List Addr, (∀ u ∈ vs, OkU A u) ∧ ∀ a ∈ A, ArgOb h A a
  | [], _, x, _, _ => by
    cases x
    exact ⟨[], fun u m => absurd m (by simp), fun a m => absurd m (by simp)⟩
  | d :: ds, _, x, p, z => by
    obtain ⟨v, vs, rfl, x1, x2⟩ := well_cons x
    have q : plW d = true ∧ plWs ds = true := Bool.and_eq_true_iff.mp p
    obtain ⟨A, a1, a2⟩ := area_one d v x1 q.1 (z d (List.mem_cons_self ..))
    obtain ⟨B, b1, b2⟩ := area_all ds vs x2 q.2 fun e he => z e (List.mem_cons_of_mem _ he)
    have kA : ∀ b ∈ A, b ∈ A ++ B := fun b hb => List.mem_append.mpr (.inl hb)
    have kB : ∀ b ∈ B, b ∈ A ++ B := fun b hb => List.mem_append.mpr (.inr hb)
    refine ⟨A ++ B, fun u hu => ?_, fun b hb => ?_⟩
    · rcases List.mem_cons.mp hu with e | m
      · rw [e]
        exact a1.mono kA
      · exact (b1 u m).mono kB
    · rcases List.mem_append.mp hb with m | m
      · exact (a2 b m).mono kA
      · exact (b2 b m).mono kB
end
end
def hoOf (o : Obj) : Option HO := match o.data with
  | .seq vs _ => if (o.cls == Value.type "list") = true then some (.frz o (.lst (vs.toList.map toV))) else some (.frz o (.tup (vs.toList.map toV)))
  | _ => none
def argH (K : PySem.W.Frag) (h : Heap) (A : List Addr) : Hp := fun b => if b ∈ A then (if (K.lookup b).isNone = true then (h.get? b).bind hoOf else none) else none
def OnlyF (H : Hp) : Prop := ∀ b, H b = none ∨ ∃ o u, H b = some (.frz o u)
theorem hoOf_lst (vs : List Value) : hoOf { cls := .type "list", data := .seq vs.toArray } = some (.frz { cls := .type "list", data := .seq vs.toArray } (.lst (vs.map toV))) := by
  show (if (Value.type "list" == Value.type "list") = true then some (HO.frz { cls := .type "list", data := .seq vs.toArray } (.lst (vs.toArray.toList.map toV))) else some (HO.frz { cls := .type "list", data := .seq vs.toArray } (.tup (vs.toArray.toList.map toV)))) = _
  rw [if_pos (beq_self_eq_true _)]
theorem hoOf_tup (vs : List Value) : hoOf { cls := .type "tuple", data := .seq vs.toArray } = some (.frz { cls := .type "tuple", data := .seq vs.toArray } (.tup (vs.map toV))) := by
  show (if (Value.type "tuple" == Value.type "list") = true then some (HO.frz { cls := .type "tuple", data := .seq vs.toArray } (.lst (vs.toArray.toList.map toV))) else some (HO.frz { cls := .type "tuple", data := .seq vs.toArray } (.tup (vs.toArray.toList.map toV)))) = _
  rw [if_neg (by decide)]
section
variable {P : Program} {w : World} {K : PySem.W.Frag} {h : Heap} {A : List Addr}
theorem argH_at {b : Addr} {o : Obj} (hb : b ∈ A) (hk : K.lookup b = none) (e : h.get? b = some o) : argH K h A b = hoOf o := by
  unfold argH
  rw [if_pos hb, hk, if_pos (show (none : Option Obj).isNone = true from rfl), e] <;> rfl
theorem of_argH {b : Addr} {u : HO} (q : argH K h A b = some u) : b ∈ A ∧ K.lookup b = none := by
  unfold argH at q
  by_cases hb : b ∈ A
  · rw [if_pos hb] at q
    cases hk : K.lookup b with
    | none => exact ⟨hb, rfl⟩
    | some o =>
      rw [hk, if_neg (by simp)] at q
      cases q
  · rw [if_neg hb] at q
    cases q
theorem argH_is (ar : ∀ a ∈ A, ArgOb h A a) {b : Addr} {u : HO} (q : argH K h A b = some u) : K.lookup b = none ∧ ∃ vs : List Value, vs.length ≤ sizeLine ∧ (∀ u ∈ vs, OkU A u) ∧
    ((h.get? b = some { cls := .type "list", data := .seq vs.toArray } ∧ u = .frz { cls := .type "list", data := .seq vs.toArray } (.lst (vs.map toV))) ∨
     (h.get? b = some { cls := .type "tuple", data := .seq vs.toArray } ∧ u = .frz { cls := .type "tuple", data := .seq vs.toArray } (.tup (vs.map toV)))) := by
  obtain ⟨hb, hk⟩ := of_argH q
  obtain ⟨vs, h1, h2, h3⟩ := ar b hb
  refine ⟨hk, vs, h1, h2, ?_⟩
  rcases h3 with e | e
  · rw [argH_at hb hk e, hoOf_lst] at q
    exact .inl ⟨e, (Option.some.inj q).symm⟩
  · rw [argH_at hb hk e, hoOf_tup] at q
    exact .inr ⟨e, (Option.some.inj q).symm⟩
theorem argH_only (ar : ∀ a ∈ A, ArgOb h A a) : OnlyF (argH K h A) := fun b => by
  cases q : argH K h A b with
  | none => exact .inl rfl
  | some u =>
    obtain ⟨_, vs, _, _, ⟨_, e⟩ | ⟨_, e⟩⟩ := argH_is ar q
    · exact .inr ⟨_, _, by rw [e]⟩
    · exact .inr ⟨_, _, by rw [e]⟩
theorem argH_ok (ar : ∀ a ∈ A, ArgOb h A a) : HOk P w (argH K h A) h := fun b u q => by
  obtain ⟨_, vs, h1, h2, ⟨e, rfl⟩ | ⟨e, rfl⟩⟩ := argH_is ar q
  · exact ⟨e, by rw [List.length_map]; exact h1, vs, _, vals_toV h2, e⟩
  · exact ⟨e, by rw [List.length_map]; exact h1, vs, vals_toV h2, _, e, rfl, _, rfl⟩
theorem seq_inj {c c' : Value} {vs us : List Value} (e : (some { cls := c, data := .seq vs.toArray } : Option Obj) = some { cls := c', data := .seq us.toArray }) : c = c' ∧ vs = us := by
  have e1 := Option.some.inj e
  have e2 : c = c' := congrArg Obj.cls e1
  have e3 : Data.seq vs.toArray = Data.seq us.toArray := congrArg Obj.data e1
  injection e3 with e4
  refine ⟨e2, ?_⟩
  have e5 := congrArg Array.toList e4
  simpa using e5
theorem argL (KX : K.In h) (ar : ∀ a ∈ A, ArgOb h A a) {a : Addr} {vs : List Value} (ha : a ∈ A) (e : h.get? a = some { cls := .type "list", data := .seq vs.toArray }) : (∀ u ∈ vs, OkU A u) ∧ SqL K (argH K h A) a (vs.map toV) := by
  obtain ⟨us, h1, h2, h3⟩ := ar a ha
  have hu : us = vs := by
    rcases h3 with q | q
    · rw [e] at q
      exact (seq_inj q).2.symm
    · rw [e] at q
      exact absurd (Value.type.inj (seq_inj q).1) (by decide)
  subst hu
  refine ⟨h2, ?_⟩
  cases hk : K.lookup a with
  | none => exact .inl (.inr ⟨_, by rw [argH_at ha hk e, hoOf_lst]⟩)
  | some o =>
    have e2 := KX a o hk
    rw [e] at e2
    obtain rfl := Option.some.inj e2
    exact .inr ⟨_, us.toArray, _, hk, rfl, rfl, rfl, by rw [List.size_toArray]; exact h1, by simpa using vals_toV h2⟩
theorem argT (KX : K.In h) (ar : ∀ a ∈ A, ArgOb h A a) {a : Addr} {vs : List Value} (ha : a ∈ A) (e : h.get? a = some { cls := .type "tuple", data := .seq vs.toArray }) : (∀ u ∈ vs, OkU A u) ∧ SqT K (argH K h A) a (vs.map toV) := by
  obtain ⟨us, h1, h2, h3⟩ := ar a ha
  have hu : us = vs := by
    rcases h3 with q | q
    · rw [e] at q
      exact absurd (Value.type.inj (seq_inj q).1) (by decide)
    · rw [e] at q
      exact (seq_inj q).2.symm
  subst hu
  refine ⟨h2, ?_⟩
  cases hk : K.lookup a with
  | none => exact .inl (.inr ⟨_, by rw [argH_at ha hk e, hoOf_tup]⟩)
  | some o =>
    have e2 := KX a o hk
    rw [e] at e2
    obtain rfl := Option.some.inj e2
    exact .inr ⟨_, us.toArray, _, hk, rfl, rfl, by rw [List.size_toArray]; exact h1, by simpa using vals_toV h2⟩
mutual
theorem dw_one {Pm : Params} (KX : K.In h) (ar : ∀ a ∈ A, ArgOb h A a) : ∀ (d : WData) (v : Value), Well Pm h v d → plW d = true → OkU A v → Dw K (argH K h A) (toV v) d
  | .none, _, x, _, _ => by
    cases x
    exact .non
  | .bool b, _, x, _, _ => by
    cases x
    exact .bl b
  | .int i, _, x, _, _ => by
    cases x
    exact .int i
  | .str s, _, x, _, _ => by
    cases x
    exact .str s
  | .bytes b, _, x, _, _ => by
    cases x
    have z := Dw.byt (K := K) (H := argH K h A) b.toArray
    exact z
  | .list ds, _, x, p, hu => by
    obtain ⟨a, vs, rfl, ho, hall⟩ := well_list x
    obtain ⟨h2, hs⟩ := argL KX ar hu ho
    exact .lst hs (dw_all KX ar ds _ hall p h2)
  | .tuple ds, _, x, p, hu => by
    obtain ⟨a, vs, rfl, ho, hall⟩ := well_tuple x
    obtain ⟨h2, hs⟩ := argT KX ar hu ho
    exact .tup hs (dw_all KX ar ds _ hall p h2)
  | .float _, _, _, p, _ => Bool.noConfusion (show false = true from p)
  | .dict _, _, _, p, _ => Bool.noConfusion (show false = true from p)
  | .bytearray _, _, _, p, _ => Bool.noConfusion (show false = true from p)
  | .set _, _, _, p, _ => Bool.noConfusion (show false = true from p)
  | .frozenset _, _, _, p, _ => Bool.noConfusion (show false = true from p)
  | .obj _ _, _, _, p, _ => Bool.noConfusion (show false = true from p)
theorem dw_all {Pm : Params} (KX : K.In h) (ar : ∀ a ∈ A, ArgOb h A a) : ∀ (ds : List WData) (vs : List Value), WellAll Pm h vs ds → plWs ds = true → (∀ u ∈ vs, OkU A u) → DwAll K (argH K h A) (vs.map toV) ds
  | [], _, x, _, _ => by
    cases x
    exact .nil
  | d :: ds, _, x, p, hu => by
    obtain ⟨v, vs, rfl, x1, x2⟩ := well_cons x
    have q : plW d = true ∧ plWs ds = true := Bool.and_eq_true_iff.mp p
    exact .cons (dw_one KX ar d v x1 q.1 (hu _ (List.mem_cons_self ..))) (dw_all KX ar ds vs x2 q.2 fun u m => hu u (List.mem_cons_of_mem _ m))
end
end
theorem spec_call {P : Program} {w : World} {K : PySem.W.Frag} {mg mb : Str → Option Value} {CX : CXT} {k : Nat} {fa : Addr} {fd : FuncData} {ps : List Str} {sp : Sp} {s₁ : Shared} {vals : List Value} {ds : List WData} {R : PySem.W.WRecords} {cl : Str → Option Addr} {d0 : WData}
    (KX : K.In s₁.heap) (hns : s₁.heap.Ns mainGlobals mg) (hb : s₁.heap.Ns builtinsNs mb) (hbb : ∀ x : Str, x ≠ "__name__" → mb x = bootBuiltins x) (hlim : s₁.heap.NoLimit) (hg : s₁.gens = #[])
    (hwl : WellAll w.params s₁.heap vals ds) (hpl : plWs ds = true) (hwt : ∀ d ∈ ds, d.weight ≤ 1048576) (hr : Room k callerA)
    (F : ∀ base : Heap, K.In base → base.Ns mainGlobals mg → FnOk P w K mg base CX k fa fd ps sp) (hbind : ∀ (s : Shared) (us : List Value), us.length = ps.length → BindsTo s fd ⟨us, []⟩ (ps.zip us)) (hlen : ds.length = ps.length)
    (hsp : ∀ (H : Hp) (xs : List V), OnlyF H → DwAll K H xs ds → sp xs H (fun v H' => Dw K H' v d0) fun _ _ _ => False)
    (hCX : ∀ H e s', CX [] H s₁ (fun _ _ _ => False) e s' → False) :
    codeAny (model P w) callerA (.call (.ref fa) ⟨vals, []⟩) (fun r s' => ∃ u as, r = .ok (.ret u) ∧ ReadsW R cl s'.heap u d0 as ∧ OldK s₁.heap s'.heap ∧ s'.os = s₁.os ∧ AllBare s'.gens) s₁ := by
  obtain ⟨A, ho, ar⟩ := area_all ds vals hwl hpl hwt
  have hO : OnlyF (argH K s₁.heap A) := argH_only ar
  have hok : HOk P w (argH K s₁.heap A) s₁.heap := argH_ok ar
  have hS := dw_all KX ar ds vals hwl hpl ho
  have hV := vals_toV ho
  have hK : ∀ b u, argH K s₁.heap A b = some u → K.lookup b = none := fun b u q => (argH_is ar q).1
  have noA : ∀ {b : Addr} {o : Obj} {es : Array DictEntry} {ep : Nat}, s₁.heap.get? b = some o → o.data = .dict es ep → argH K s₁.heap A b = none := fun {b o es ep} e d => by
    cases q : argH K s₁.heap A b with
    | none => rfl
    | some u =>
      obtain ⟨_, vs, _, _, ⟨e2, _⟩ | ⟨e2, _⟩⟩ := argH_is ar q
      · rw [e2] at e
        cases e
        have d' : Data.seq vs.toArray _ = Data.dict es ep := d
        cases d'
      · rw [e2] at e
        cases e
        have d' : Data.seq vs.toArray _ = Data.dict es ep := d
        cases d'
  generalize argH K s₁.heap A = H at hO hok hS hK noA
  have base_of : ∀ {b : Addr} {o : Obj}, s₁.heap.get? b = some o → H b = none → (hidT s₁.heap H).get? b = some o := fun e n => hidT_get e n
  have nsK : ∀ {b : Addr} {m : Str → Option Value}, s₁.heap.Ns b m → (hidT s₁.heap H).Ns b m := fun {b m} ⟨o, es, ep, e, d, r⟩ => ⟨o, es, ep, base_of e (noA e d), d, r⟩
  have nK : ∀ b o, K.lookup b = some o → H b = none := fun b o e => by
    cases q : H b with
    | none => rfl
    | some u =>
      rw [hK b u q] at e
      cases e
  have hKb : K.In (hidT s₁.heap H) := fun b o e => base_of (KX b o e) (nK b o e)
  have hM : Mod K mg (hidT s₁.heap H) := ⟨hKb, nsK hns, ⟨mb, nsK hb, hbb⟩, let ⟨mc, h1, h2⟩ := hlim; ⟨mc, nsK h1, h2⟩⟩
  have e0 : Env0 P w K mg (hidT s₁.heap H) callerA [] s₁ H := ⟨rfl, hM, fun b o e => of_hidT e, Nat.le_of_eq (hidT_size _ _), trivial, fun b hb => absurd (show b ∈ ([] : List Addr) from hb) (by simp), hok, .of_eq hg⟩
  have hl : vals.length = ps.length := by rw [wellAll_len hwl]; exact hlen
  refine codeAny_mono ((F _ hKb (nsK hns)).run callerA [] s₁ H ⟨vals, []⟩ vals (vals.map toV) _ _ hr e0 (hbind s₁ vals hl) hV (hsp H _ hO hS)) fun r s' x => ?_
  cases r with
  | error e => exact (hCX H e s' x).elim
  | ok fl =>
    cases fl with
    | next => exact False.elim x
    | brk => exact False.elim x
    | cont => exact False.elim x
    | ret u =>
      obtain ⟨v, H', os, bare, un, hok', r', q⟩ := x
      have kept : ∀ b o, s₁.heap.get? b = some o → s'.heap.get? b = some o := fun b o e => by
        cases q2 : H b with
        | none => exact un.keep b o e q2 (by intro z; exact absurd (show b ∈ ([] : List Addr) from z) (by simp)) (by simp)
        | some u2 =>
          rcases hO b with z | ⟨ob, u3, z⟩
          · rw [q2] at z
            cases z
          · have z2 := un.frzs b ob _ z
            obtain ⟨e1, _⟩ := hok b _ z
            obtain ⟨e2, _⟩ := hok' b _ z2
            rw [e] at e1
            cases e1
            exact e2
      have KX' : K.In s'.heap := fun b o e => kept b o (KX b o e)
      obtain ⟨as, hrd⟩ := Dw.reads (R := R) (cl := cl) hok' KX' d0 v u q r'
      exact ⟨u, as, rfl, hrd, OldK.of_keep kept, os, bare⟩
theorem layable_weight {ds : List WData} (h : WData.layableAll ds = true) : ∀ d ∈ ds, d.weight ≤ 1048576 := fun d hd =>
  (PySem.W.layableW_iff.mp (List.all_eq_true.mp h d hd)).2.2
theorem encAll_len : ∀ (cs : List Codec) (a : Codec.denoteAll cs), (Codec.encAll cs a).length = cs.length
  | [], _ => rfl
  | c :: cs, a => by
    show (Codec.encAll cs a.2).length + 1 = cs.length + 1
    rw [encAll_len cs a.2]
theorem walk_spec {r : OpenSpec} {k : Nat} {q : Program} {loose : List Str} {XP : (Str → Option Value) → Heap → Prop} {YP : World → Heap → Prop} {d : DefRec} {K : Params → PySem.W.Frag} {CX : World → CXT} {ps : List Str} {sp : World → Sp}
    (hwell : r.wellSaid = true) (hdf : d.params.defaults = []) (hlen : r.args.length = ps.length) (hr : Room k callerA)
    (hY : ∀ (w : World) (h : Heap), YP w h → (K w.params).In h)
    (F : ∀ (w : World) (mg : Str → Option Value) (fa : Addr) (h : Heap), YP w h → (K w.params).In h → h.Ns mainGlobals mg → mg d.name = some (.ref fa) →
      ∃ fd : FuncData, (∀ (s : Shared) (us : List Value), us.length = ps.length → BindsTo s fd ⟨us, []⟩ (ps.zip us)) ∧
        ∀ base : Heap, (K w.params).In base → base.Ns mainGlobals mg → FnOk r.prog w (K w.params) mg base (CX w) k fa fd ps (sp w))
    (hsp : ∀ (w : World) (H : Hp) (xs : List V) (a : Codec.denoteAll r.args), OnlyF H → Codec.withinAll r.args a = true → Codec.app r.args r.asked a = true → DwAll (K w.params) H xs (Codec.encAll r.args a) →
      sp w xs H (fun v H' => Dw (K w.params) H' v (r.ret.enc (Codec.app r.args r.f a))) fun _ _ _ => False)
    (hCX : ∀ (w : World) (H : Hp) (s : Shared) (e : Value) (s' : Shared), CX w [] H s (fun _ _ _ => False) e s' → False) :
    PySem.W.WalkOS q loose XP YP r d [] (fun f vs => PySem.call f vs) := by
  intro w s_0 s₁ mg mb G Y fa o pm cd doc dV kV ho hd hcd hD hmg hg args vals as hpre hlay hrd hwl hlo
  obtain ⟨a, e1, e2⟩ := PySem.W.os_pre_some hpre
  obtain ⟨e3, hwi⟩ := Codec.encAll_of_decAll r.args args a e1
  subst e3
  have KX := hY w _ Y
  obtain ⟨fd, hb, hF⟩ := F w mg fa _ Y KX G.T.g hmg
  refine PySem.W.enter_call (codeAny_mono (spec_call (R := []) (cl := classAt s_0.heap) (d0 := r.ret.enc (Codec.app r.args r.f a)) KX G.T.g G.T.b G.T.builtins G.T.nolimit hg hwl (pl_encAll _ _) (layable_weight hlay) hr hF hb (by rw [encAll_len]; exact hlen)
    (fun H xs hO hS => hsp w H xs a hO hwi e2 hS) fun H e s' => hCX w H s₁ e s') fun r' s' hq => ?_)
  obtain ⟨u, as', rfl, h1, h2, h3, h4⟩ := hq
  exact ⟨.inl ⟨u, _, as', rfl, fun _ => rfl, h1, (OpenSpec.post_iff hwell hwi _ _).mpr rfl, fun z => Bool.noConfusion (show false = true from z)⟩, h2, h3, h4⟩
theorem walk_specK {r : OpenSpec} {k : Nat} {q : Program} {loose : List Str} {XP : (Str → Option Value) → Heap → Prop} {YP : World → Heap → Prop} {d : DefRec} {K : Params → PySem.W.Frag} {CX : CXT} {ps : List Str} {sp : PySem.W.Frag → Sp}
    (hwell : r.wellSaid = true) (hdf : d.params.defaults = []) (hlen : r.args.length = ps.length) (hr : Room k callerA)
    (hY : ∀ (w : World) (h : Heap), YP w h → (K w.params).In h)
    (F : ∀ (w : World) (mg : Str → Option Value) (fa : Addr) (h : Heap), YP w h → (K w.params).In h → h.Ns mainGlobals mg → mg d.name = some (.ref fa) →
      ∃ fd : FuncData, (∀ (s : Shared) (us : List Value), us.length = ps.length → BindsTo s fd ⟨us, []⟩ (ps.zip us)) ∧
        ∀ base : Heap, (K w.params).In base → base.Ns mainGlobals mg → FnOk r.prog w (K w.params) mg base CX k fa fd ps (sp (K w.params)))
    (hsp : ∀ (K : PySem.W.Frag) (H : Hp) (xs : List V) (a : Codec.denoteAll r.args), OnlyF H → Codec.withinAll r.args a = true → Codec.app r.args r.asked a = true → DwAll K H xs (Codec.encAll r.args a) →
      sp K xs H (fun v H' => Dw K H' v (r.ret.enc (Codec.app r.args r.f a))) fun _ _ _ => False)
    (hCX : ∀ (H : Hp) (s : Shared) (e : Value) (s' : Shared), CX [] H s (fun _ _ _ => False) e s' → False) :
    PySem.W.WalkOS q loose XP YP r d [] (fun f vs => PySem.call f vs) :=
  walk_spec (K := K) (CX := fun _ => CX) (sp := fun w => sp (K w.params)) hwell hdf hlen hr hY F (fun w H xs a h1 h2 h3 h4 => hsp (K w.params) H xs a h1 h2 h3 h4) fun _ H s e s' => hCX H s e s'
end L2
set_option maxHeartbeats 4000000
namespace Tb
open PySem PySem.Spec PyProof.Rows L2
def GI (mg : Str → Option Value) (x : Str) (i : Int) : Prop := ∃ u, mg x = some u ∧ RelV (.int i) u
def KdEs : List DictEntry → List (Int × Int) → Prop
  | [], [] => True
  | e :: es, (k, v) :: r => e.hash = hashInt k ∧ (∃ t, e.key = .int k t) ∧ (∃ t, e.val = .int v t) ∧ KdEs es r
  | _, _ => False
def KDict (K : PySem.W.Frag) (a : Addr) (kvs : List (Int × Int)) : Prop :=
  ∃ (o : Obj) (es : Array DictEntry) (ep : Nat), K.lookup a = some o ∧ o.ExactDict ∧ o.data = .dict es ep ∧ KdEs es.toList kvs ∧ (kvs.map (·.1)).Nodup
def top (i : Nat) : Stmt := PySem.Challenge.pw_treebridge_s01_answers.main.body.getD i (.Pass ⟨0, 0, 0, 0⟩)
local macro_rules | `(tactic| walk_at "sc") => `(tactic| exact ⟨rfl, rfl, rfl, by decide +kernel, rfl, by decide +kernel, by decide +kernel⟩)
abbrev s_Leader_init : Stmt := inClass (top 6) 0
abbrev s_Times_init : Stmt := inClass (top 7) 0
abbrev s_Said_init : Stmt := inClass (top 8) 0
abbrev s_Port_init : Stmt := inClass (top 9) 0
abbrev s_Port_turn_off : Stmt := inClass (top 9) 1
abbrev s_Port_forget_notes : Stmt := inClass (top 9) 2
abbrev s_Port_start_forwarding : Stmt := inClass (top 9) 3
abbrev s_number_row : Stmt := top 15
abbrev s_row_number : Stmt := top 16
abbrev s_message_frame : Stmt := top 17
abbrev s_changed_frame : Stmt := top 18
abbrev s_said_frame : Stmt := top 19
abbrev s_notes_byte : Stmt := top 20
abbrev s_message_body : Stmt := top 21
abbrev s_is_changed : Stmt := top 22
abbrev s_read_said : Stmt := top 23
abbrev s_row_seconds : Stmt := top 24
abbrev s_Addresses_init : Stmt := inClass (top 28) 0
abbrev s_Addresses_hear : Stmt := inClass (top 28) 1
abbrev s_Addresses_place_of : Stmt := inClass (top 28) 2
abbrev s_Addresses_forget_place : Stmt := inClass (top 28) 3
abbrev s_Addresses_grow_older : Stmt := inClass (top 28) 4
abbrev s_standard_times : Stmt := top 30
abbrev s_is_better : Stmt := top 31
abbrev s_rank : Stmt := top 32
abbrev s_Bridge_init : Stmt := inClass (top 33) 0
abbrev s_Bridge_port_at : Stmt := inClass (top 33) 1
abbrev s_Bridge_is_root : Stmt := inClass (top 33) 2
abbrev s_Bridge_is_led : Stmt := inClass (top 33) 3
abbrev s_Bridge_leads_any_net : Stmt := inClass (top 33) 4
abbrev s_Bridge_send : Stmt := inClass (top 33) 5
abbrev s_Bridge_tell : Stmt := inClass (top 33) 6
abbrev s_Bridge_told_age : Stmt := inClass (top 33) 7
abbrev s_Bridge_all_tell : Stmt := inClass (top 33) 8
abbrev s_Bridge_start_asking : Stmt := inClass (top 33) 9
abbrev s_Bridge_ask : Stmt := inClass (top 33) 10
abbrev s_Bridge_choose : Stmt := inClass (top 33) 11
abbrev s_Bridge_may_be_chosen : Stmt := inClass (top 33) 12
abbrev s_Bridge_own_leader : Stmt := inClass (top 33) 13
abbrev s_Bridge_lead : Stmt := inClass (top 33) 14
abbrev s_Bridge_is_to_lead : Stmt := inClass (top 33) 15
abbrev s_Bridge_update_tree : Stmt := inClass (top 33) 16
abbrev s_Bridge_set_states : Stmt := inClass (top 33) 17
abbrev s_Bridge_set_state : Stmt := inClass (top 33) 18
abbrev s_Bridge_block : Stmt := inClass (top 33) 19
abbrev s_Bridge_settle : Stmt := inClass (top 33) 20
abbrev s_Bridge_find_change : Stmt := inClass (top 33) 21
abbrev s_Bridge_become_root : Stmt := inClass (top 33) 22
abbrev s_take_frame : Stmt := top 37
abbrev s_take_message : Stmt := top 38
abbrev s_take_changed : Stmt := top 39
abbrev s_take_better : Stmt := top 40
abbrev s_stop_being_root : Stmt := top 41
abbrev s_follow_root : Stmt := top 42
abbrev s_take_other : Stmt := top 43
abbrev s_pass_on : Stmt := top 44
abbrev s_pass_second : Stmt := top 50
abbrev s_one_more : Stmt := top 51
abbrev s_is_out : Stmt := top 52
abbrev s_count_telling : Stmt := top 53
abbrev s_count_asking : Stmt := top 54
abbrev s_count_changing : Stmt := top 55
abbrev s_count_age : Stmt := top 56
abbrev s_count_wait : Stmt := top 57
abbrev s_count_hold : Stmt := top 58
abbrev s_address_seconds : Stmt := top 59
abbrev s_answers : Stmt := top 73
abbrev s_call_length : Stmt := top 74
abbrev s_answer_call : Stmt := top 75
abbrev s_refusal : Stmt := top 76
abbrev s_br_on : Stmt := top 77
abbrev s_br_off : Stmt := top 78
abbrev s_br_frame : Stmt := top 79
abbrev s_br_second : Stmt := top 80
abbrev s_br_port : Stmt := top 81
abbrev s_br_root : Stmt := top 82
abbrev s_br_find : Stmt := top 83
abbrev s_take_sent : Stmt := top 84
theorem sc_Leader_init : FnScope ["self", "root", "cost", "bridge", "port"] ["self", "root", "cost", "bridge", "port"] (defScope s_Leader_init) := by walk_at "sc"
theorem sc_Times_init : FnScope ["self", "oldest", "between", "wait"] ["self", "oldest", "between", "wait"] (defScope s_Times_init) := by walk_at "sc"
theorem sc_Said_init : FnScope ["self", "leader", "age", "times", "change", "known"] ["self", "leader", "age", "times", "change", "known"] (defScope s_Said_init) := by walk_at "sc"
theorem sc_Port_init : FnScope ["self", "place"] ["self", "place"] (defScope s_Port_init) := by walk_at "sc"
theorem sc_Port_turn_off : FnScope ["self"] ["self"] (defScope s_Port_turn_off) := by walk_at "sc"
theorem sc_Port_forget_notes : FnScope ["self"] ["self"] (defScope s_Port_forget_notes) := by walk_at "sc"
theorem sc_Port_start_forwarding : FnScope ["self"] ["self"] (defScope s_Port_start_forwarding) := by walk_at "sc"
theorem sc_number_row : FnScope ["number", "length", "place"] ["number", "length"] (defScope s_number_row) := by walk_at "sc"
theorem sc_row_number : FnScope ["row", "number", "byte"] ["row"] (defScope s_row_number) := by walk_at "sc"
theorem sc_message_frame : FnScope ["own_id", "body", "behind"] ["own_id", "body"] (defScope s_message_frame) := by walk_at "sc"
theorem sc_changed_frame : FnScope ["own_id"] ["own_id"] (defScope s_changed_frame) := by walk_at "sc"
theorem sc_said_frame : FnScope ["own_id", "said", "leader", "times", "body", "seconds"] ["own_id", "said"] (defScope s_said_frame) := by walk_at "sc"
theorem sc_notes_byte : FnScope ["said", "known", "there"] ["said"] (defScope s_notes_byte) := by walk_at "sc"
theorem sc_message_body : FnScope ["frame", "length"] ["frame"] (defScope s_message_body) := by walk_at "sc"
theorem sc_is_changed : FnScope ["body"] ["body"] (defScope s_is_changed) := by walk_at "sc"
theorem sc_read_said : FnScope ["body", "times", "age", "leader"] ["body"] (defScope s_read_said) := by walk_at "sc"
theorem sc_row_seconds : FnScope ["row"] ["row"] (defScope s_row_seconds) := by walk_at "sc"
theorem sc_Addresses_init : FnScope ["self"] ["self"] (defScope s_Addresses_init) := by walk_at "sc"
theorem sc_Addresses_hear : FnScope ["self", "address", "place"] ["self", "address", "place"] (defScope s_Addresses_hear) := by walk_at "sc"
theorem sc_Addresses_place_of : FnScope ["self", "address"] ["self", "address"] (defScope s_Addresses_place_of) := by walk_at "sc"
theorem sc_Addresses_forget_place : FnScope ["self", "place", "kept", "address", "entry"] ["self", "place"] (defScope s_Addresses_forget_place) := by walk_at "sc"
theorem sc_Addresses_grow_older : FnScope ["self", "oldest", "kept", "address", "entry", "age"] ["self", "oldest"] (defScope s_Addresses_grow_older) := by walk_at "sc"
theorem sc_standard_times : FnScope [] [] (defScope s_standard_times) := by walk_at "sc"
theorem sc_is_better : FnScope ["new", "old", "own_id"] ["new", "old", "own_id"] (defScope s_is_better) := by walk_at "sc"
theorem sc_rank : FnScope ["port", "leader"] ["port"] (defScope s_rank) := by walk_at "sc"
theorem sc_Bridge_init : FnScope ["self", "own_id", "how_many", "place"] ["self", "own_id", "how_many"] (defScope s_Bridge_init) := by walk_at "sc"
theorem sc_Bridge_port_at : FnScope ["self", "place"] ["self", "place"] (defScope s_Bridge_port_at) := by walk_at "sc"
theorem sc_Bridge_is_root : FnScope ["self"] ["self"] (defScope s_Bridge_is_root) := by walk_at "sc"
theorem sc_Bridge_is_led : FnScope ["self", "port"] ["self", "port"] (defScope s_Bridge_is_led) := by walk_at "sc"
theorem sc_Bridge_leads_any_net : FnScope ["self", "port"] ["self"] (defScope s_Bridge_leads_any_net) := by walk_at "sc"
theorem sc_Bridge_send : FnScope ["self", "place", "frame"] ["self", "place", "frame"] (defScope s_Bridge_send) := by walk_at "sc"
theorem sc_Bridge_tell : FnScope ["self", "port", "age", "said"] ["self", "port"] (defScope s_Bridge_tell) := by walk_at "sc"
theorem sc_Bridge_told_age : FnScope ["self", "age"] ["self"] (defScope s_Bridge_told_age) := by walk_at "sc"
theorem sc_Bridge_all_tell : FnScope ["self", "port"] ["self"] (defScope s_Bridge_all_tell) := by walk_at "sc"
theorem sc_Bridge_start_asking : FnScope ["self"] ["self"] (defScope s_Bridge_start_asking) := by walk_at "sc"
theorem sc_Bridge_ask : FnScope ["self"] ["self"] (defScope s_Bridge_ask) := by walk_at "sc"
theorem sc_Bridge_choose : FnScope ["self", "chosen", "port"] ["self"] (defScope s_Bridge_choose) := by walk_at "sc"
theorem sc_Bridge_may_be_chosen : FnScope ["self", "port"] ["self", "port"] (defScope s_Bridge_may_be_chosen) := by walk_at "sc"
theorem sc_Bridge_own_leader : FnScope ["self", "port"] ["self", "port"] (defScope s_Bridge_own_leader) := by walk_at "sc"
theorem sc_Bridge_lead : FnScope ["self", "port"] ["self", "port"] (defScope s_Bridge_lead) := by walk_at "sc"
theorem sc_Bridge_is_to_lead : FnScope ["self", "port", "leader"] ["self", "port"] (defScope s_Bridge_is_to_lead) := by walk_at "sc"
theorem sc_Bridge_update_tree : FnScope ["self", "port"] ["self"] (defScope s_Bridge_update_tree) := by walk_at "sc"
theorem sc_Bridge_set_states : FnScope ["self", "port"] ["self"] (defScope s_Bridge_set_states) := by walk_at "sc"
theorem sc_Bridge_set_state : FnScope ["self", "port"] ["self", "port"] (defScope s_Bridge_set_state) := by walk_at "sc"
theorem sc_Bridge_block : FnScope ["self", "port"] ["self", "port"] (defScope s_Bridge_block) := by walk_at "sc"
theorem sc_Bridge_settle : FnScope ["self", "was_root"] ["self"] (defScope s_Bridge_settle) := by walk_at "sc"
theorem sc_Bridge_find_change : FnScope ["self"] ["self"] (defScope s_Bridge_find_change) := by walk_at "sc"
theorem sc_Bridge_become_root : FnScope ["self"] ["self"] (defScope s_Bridge_become_root) := by walk_at "sc"
theorem sc_take_frame : FnScope ["bridge", "port", "frame"] ["bridge", "port", "frame"] (defScope s_take_frame) := by walk_at "sc"
theorem sc_take_message : FnScope ["bridge", "port", "body", "said"] ["bridge", "port", "body"] (defScope s_take_message) := by walk_at "sc"
theorem sc_take_changed : FnScope ["bridge", "port"] ["bridge", "port"] (defScope s_take_changed) := by walk_at "sc"
theorem sc_take_better : FnScope ["bridge", "port", "said", "was_root"] ["bridge", "port", "said"] (defScope s_take_better) := by walk_at "sc"
theorem sc_stop_being_root : FnScope ["bridge"] ["bridge"] (defScope s_stop_being_root) := by walk_at "sc"
theorem sc_follow_root : FnScope ["bridge", "said"] ["bridge", "said"] (defScope s_follow_root) := by walk_at "sc"
theorem sc_take_other : FnScope ["bridge", "port", "frame", "target", "is_kept"] ["bridge", "port", "frame"] (defScope s_take_other) := by walk_at "sc"
theorem sc_pass_on : FnScope ["bridge", "source", "target", "frame", "known_place", "port"] ["bridge", "source", "target", "frame"] (defScope s_pass_on) := by walk_at "sc"
theorem sc_pass_second : FnScope ["bridge", "port"] ["bridge"] (defScope s_pass_second) := by walk_at "sc"
theorem sc_one_more : FnScope ["timer"] ["timer"] (defScope s_one_more) := by walk_at "sc"
theorem sc_is_out : FnScope ["timer", "seconds"] ["timer", "seconds"] (defScope s_is_out) := by walk_at "sc"
theorem sc_count_telling : FnScope ["bridge"] ["bridge"] (defScope s_count_telling) := by walk_at "sc"
theorem sc_count_asking : FnScope ["bridge"] ["bridge"] (defScope s_count_asking) := by walk_at "sc"
theorem sc_count_changing : FnScope ["bridge"] ["bridge"] (defScope s_count_changing) := by walk_at "sc"
theorem sc_count_age : FnScope ["bridge", "port"] ["bridge", "port"] (defScope s_count_age) := by walk_at "sc"
theorem sc_count_wait : FnScope ["bridge", "port"] ["bridge", "port"] (defScope s_count_wait) := by walk_at "sc"
theorem sc_count_hold : FnScope ["bridge", "port"] ["bridge", "port"] (defScope s_count_hold) := by walk_at "sc"
theorem sc_address_seconds : FnScope ["bridge"] ["bridge"] (defScope s_address_seconds) := by walk_at "sc"
theorem sc_answers : FnScope ["calls", "given", "bridge", "at", "end", "call", "answer"] ["calls"] (defScope s_answers) := by walk_at "sc"
theorem sc_call_length : FnScope ["calls", "at", "length"] ["calls", "at"] (defScope s_call_length) := by walk_at "sc"
theorem sc_answer_call : FnScope ["bridge", "call"] ["bridge", "call"] (defScope s_answer_call) := by walk_at "sc"
theorem sc_refusal : FnScope [] [] (defScope s_refusal) := by walk_at "sc"
theorem sc_br_on : FnScope ["bridge", "place", "cost", "port"] ["bridge", "place", "cost"] (defScope s_br_on) := by walk_at "sc"
theorem sc_br_off : FnScope ["bridge", "place", "port"] ["bridge", "place"] (defScope s_br_off) := by walk_at "sc"
theorem sc_br_frame : FnScope ["bridge", "place", "frame", "port"] ["bridge", "place", "frame"] (defScope s_br_frame) := by walk_at "sc"
theorem sc_br_second : FnScope ["bridge"] ["bridge"] (defScope s_br_second) := by walk_at "sc"
theorem sc_br_port : FnScope ["bridge", "place", "port", "leader"] ["bridge", "place"] (defScope s_br_port) := by walk_at "sc"
theorem sc_br_root : FnScope ["bridge"] ["bridge"] (defScope s_br_root) := by walk_at "sc"
theorem sc_br_find : FnScope ["bridge", "address"] ["bridge", "address"] (defScope s_br_find) := by walk_at "sc"
theorem sc_take_sent : FnScope ["bridge", "answer", "place", "frame"] ["bridge"] (defScope s_take_sent) := by walk_at "sc"
structure Adr where
  C_Leader : Addr
  C_Times : Addr
  C_Said : Addr
  C_Port : Addr
  C_Addresses : Addr
  C_Bridge : Addr
  f_Leader_init : Addr
  fd_Leader_init : FuncData
  f_Times_init : Addr
  fd_Times_init : FuncData
  f_Said_init : Addr
  fd_Said_init : FuncData
  f_Port_init : Addr
  fd_Port_init : FuncData
  f_Port_turn_off : Addr
  fd_Port_turn_off : FuncData
  f_Port_forget_notes : Addr
  fd_Port_forget_notes : FuncData
  f_Port_start_forwarding : Addr
  fd_Port_start_forwarding : FuncData
  f_number_row : Addr
  fd_number_row : FuncData
  f_row_number : Addr
  fd_row_number : FuncData
  f_message_frame : Addr
  fd_message_frame : FuncData
  f_changed_frame : Addr
  fd_changed_frame : FuncData
  f_said_frame : Addr
  fd_said_frame : FuncData
  f_notes_byte : Addr
  fd_notes_byte : FuncData
  f_message_body : Addr
  fd_message_body : FuncData
  f_is_changed : Addr
  fd_is_changed : FuncData
  f_read_said : Addr
  fd_read_said : FuncData
  f_row_seconds : Addr
  fd_row_seconds : FuncData
  f_Addresses_init : Addr
  fd_Addresses_init : FuncData
  f_Addresses_hear : Addr
  fd_Addresses_hear : FuncData
  f_Addresses_place_of : Addr
  fd_Addresses_place_of : FuncData
  f_Addresses_forget_place : Addr
  fd_Addresses_forget_place : FuncData
  f_Addresses_grow_older : Addr
  fd_Addresses_grow_older : FuncData
  f_standard_times : Addr
  fd_standard_times : FuncData
  f_is_better : Addr
  fd_is_better : FuncData
  f_rank : Addr
  fd_rank : FuncData
  f_Bridge_init : Addr
  fd_Bridge_init : FuncData
  f_Bridge_port_at : Addr
  fd_Bridge_port_at : FuncData
  f_Bridge_is_root : Addr
  fd_Bridge_is_root : FuncData
  f_Bridge_is_led : Addr
  fd_Bridge_is_led : FuncData
  f_Bridge_leads_any_net : Addr
  fd_Bridge_leads_any_net : FuncData
  f_Bridge_send : Addr
  fd_Bridge_send : FuncData
  f_Bridge_tell : Addr
  fd_Bridge_tell : FuncData
  f_Bridge_told_age : Addr
  fd_Bridge_told_age : FuncData
  f_Bridge_all_tell : Addr
  fd_Bridge_all_tell : FuncData
  f_Bridge_start_asking : Addr
  fd_Bridge_start_asking : FuncData
  f_Bridge_ask : Addr
  fd_Bridge_ask : FuncData
  f_Bridge_choose : Addr
  fd_Bridge_choose : FuncData
  f_Bridge_may_be_chosen : Addr
  fd_Bridge_may_be_chosen : FuncData
  f_Bridge_own_leader : Addr
  fd_Bridge_own_leader : FuncData
  f_Bridge_lead : Addr
  fd_Bridge_lead : FuncData
  f_Bridge_is_to_lead : Addr
  fd_Bridge_is_to_lead : FuncData
  f_Bridge_update_tree : Addr
  fd_Bridge_update_tree : FuncData
  f_Bridge_set_states : Addr
  fd_Bridge_set_states : FuncData
  f_Bridge_set_state : Addr
  fd_Bridge_set_state : FuncData
  f_Bridge_block : Addr
  fd_Bridge_block : FuncData
  f_Bridge_settle : Addr
  fd_Bridge_settle : FuncData
  f_Bridge_find_change : Addr
  fd_Bridge_find_change : FuncData
  f_Bridge_become_root : Addr
  fd_Bridge_become_root : FuncData
  f_take_frame : Addr
  fd_take_frame : FuncData
  f_take_message : Addr
  fd_take_message : FuncData
  f_take_changed : Addr
  fd_take_changed : FuncData
  f_take_better : Addr
  fd_take_better : FuncData
  f_stop_being_root : Addr
  fd_stop_being_root : FuncData
  f_follow_root : Addr
  fd_follow_root : FuncData
  f_take_other : Addr
  fd_take_other : FuncData
  f_pass_on : Addr
  fd_pass_on : FuncData
  f_pass_second : Addr
  fd_pass_second : FuncData
  f_one_more : Addr
  fd_one_more : FuncData
  f_is_out : Addr
  fd_is_out : FuncData
  f_count_telling : Addr
  fd_count_telling : FuncData
  f_count_asking : Addr
  fd_count_asking : FuncData
  f_count_changing : Addr
  fd_count_changing : FuncData
  f_count_age : Addr
  fd_count_age : FuncData
  f_count_wait : Addr
  fd_count_wait : FuncData
  f_count_hold : Addr
  fd_count_hold : FuncData
  f_address_seconds : Addr
  fd_address_seconds : FuncData
  f_answers : Addr
  fd_answers : FuncData
  f_call_length : Addr
  fd_call_length : FuncData
  f_answer_call : Addr
  fd_answer_call : FuncData
  f_refusal : Addr
  fd_refusal : FuncData
  f_br_on : Addr
  fd_br_on : FuncData
  f_br_off : Addr
  fd_br_off : FuncData
  f_br_frame : Addr
  fd_br_frame : FuncData
  f_br_second : Addr
  fd_br_second : FuncData
  f_br_port : Addr
  fd_br_port : FuncData
  f_br_root : Addr
  fd_br_root : FuncData
  f_br_find : Addr
  fd_br_find : FuncData
  f_take_sent : Addr
  fd_take_sent : FuncData
  a_CALL_LENGTHS : Addr
structure Txt (K : PySem.W.Frag) (mg : Str → Option Value) (t : Adr) : Prop where
  c_OFF : GI mg "OFF" (0)
  c_BLOCKING : GI mg "BLOCKING" (1)
  c_LISTENING : GI mg "LISTENING" (2)
  c_LEARNING : GI mg "LEARNING" (3)
  c_FORWARDING : GI mg "FORWARDING" (4)
  c_BRIDGES_ADDRESS : GI mg "BRIDGES_ADDRESS" (1652522221568)
  c_CHANGE_KNOWN : GI mg "CHANGE_KNOWN" (128)
  c_CHANGE_THERE : GI mg "CHANGE_THERE" (1)
  c_SAID_LENGTH : GI mg "SAID_LENGTH" (35)
  c_MOST_ADDRESSES : GI mg "MOST_ADDRESSES" (1024)
  c_GROUP_BIT : GI mg "GROUP_BIT" (1099511627776)
  c_FIRST_KEPT_ADDRESS : GI mg "FIRST_KEPT_ADDRESS" (1652522221569)
  c_LAST_KEPT_ADDRESS : GI mg "LAST_KEPT_ADDRESS" (1652522221583)
  c_ASKING_SECONDS : GI mg "ASKING_SECONDS" (2)
  c_CHANGING_SECONDS : GI mg "CHANGING_SECONDS" (35)
  c_HOLD_SECONDS : GI mg "HOLD_SECONDS" (1)
  c_ADDRESS_SECONDS : GI mg "ADDRESS_SECONDS" (300)
  c_BR_BEGIN : GI mg "BR_BEGIN" (0)
  c_BR_ON : GI mg "BR_ON" (1)
  c_BR_OFF : GI mg "BR_OFF" (2)
  c_BR_FRAME : GI mg "BR_FRAME" (3)
  c_BR_SECOND : GI mg "BR_SECOND" (4)
  c_BR_PORT : GI mg "BR_PORT" (5)
  c_BR_ROOT : GI mg "BR_ROOT" (6)
  m_CALL_LENGTHS : mg "CALL_LENGTHS" = some (.ref t.a_CALL_LENGTHS)
  d_CALL_LENGTHS : KDict K t.a_CALL_LENGTHS [(0, 3), (1, 3), (2, 2), (3, 3), (4, 1), (5, 2), (6, 1), (7, 2)]
  c_MOST_PORTS : GI mg "MOST_PORTS" (16)
  c_MOST_COST : GI mg "MOST_COST" (65535)
  c_LEAST_BYTES : GI mg "LEAST_BYTES" (14)
  c_MOST_BYTES : GI mg "MOST_BYTES" (2048)
  n_range : mg "range" = none
  n_len : mg "len" = none
  n_list : mg "list" = none
  n_min : mg "min" = none
  n_any : mg "any" = none
  m_Leader : mg "Leader" = some (.ref t.C_Leader)
  l_Leader : Cls K t.C_Leader
  K_Leader : Mk K t.C_Leader t.f_Leader_init
  a_Leader_root : NoAttr K t.C_Leader "root"
  a_Leader_cost : NoAttr K t.C_Leader "cost"
  a_Leader_bridge : NoAttr K t.C_Leader "bridge"
  a_Leader_port : NoAttr K t.C_Leader "port"
  m_Times : mg "Times" = some (.ref t.C_Times)
  l_Times : Cls K t.C_Times
  K_Times : Mk K t.C_Times t.f_Times_init
  a_Times_oldest : NoAttr K t.C_Times "oldest"
  a_Times_between : NoAttr K t.C_Times "between"
  a_Times_wait : NoAttr K t.C_Times "wait"
  m_Said : mg "Said" = some (.ref t.C_Said)
  l_Said : Cls K t.C_Said
  K_Said : Mk K t.C_Said t.f_Said_init
  a_Said_leader : NoAttr K t.C_Said "leader"
  a_Said_age : NoAttr K t.C_Said "age"
  a_Said_times : NoAttr K t.C_Said "times"
  a_Said_change : NoAttr K t.C_Said "change"
  a_Said_known : NoAttr K t.C_Said "known"
  m_Port : mg "Port" = some (.ref t.C_Port)
  l_Port : Cls K t.C_Port
  K_Port : Mk K t.C_Port t.f_Port_init
  a_Port_place : NoAttr K t.C_Port "place"
  a_Port_own_number : NoAttr K t.C_Port "own_number"
  a_Port_way_cost : NoAttr K t.C_Port "way_cost"
  a_Port_leader : NoAttr K t.C_Port "leader"
  a_Port_state : NoAttr K t.C_Port "state"
  a_Port_age : NoAttr K t.C_Port "age"
  a_Port_wait : NoAttr K t.C_Port "wait"
  a_Port_hold : NoAttr K t.C_Port "hold"
  a_Port_to_tell : NoAttr K t.C_Port "to_tell"
  a_Port_to_call_known : NoAttr K t.C_Port "to_call_known"
  m_Addresses : mg "Addresses" = some (.ref t.C_Addresses)
  l_Addresses : Cls K t.C_Addresses
  K_Addresses : Mk K t.C_Addresses t.f_Addresses_init
  a_Addresses_heard : NoAttr K t.C_Addresses "heard"
  m_Bridge : mg "Bridge" = some (.ref t.C_Bridge)
  l_Bridge : Cls K t.C_Bridge
  K_Bridge : Mk K t.C_Bridge t.f_Bridge_init
  a_Bridge_own_id : NoAttr K t.C_Bridge "own_id"
  a_Bridge_ports : NoAttr K t.C_Bridge "ports"
  a_Bridge_root : NoAttr K t.C_Bridge "root"
  a_Bridge_cost : NoAttr K t.C_Bridge "cost"
  a_Bridge_root_port : NoAttr K t.C_Bridge "root_port"
  a_Bridge_times : NoAttr K t.C_Bridge "times"
  a_Bridge_change_found : NoAttr K t.C_Bridge "change_found"
  a_Bridge_change_there : NoAttr K t.C_Bridge "change_there"
  a_Bridge_telling : NoAttr K t.C_Bridge "telling"
  a_Bridge_asking : NoAttr K t.C_Bridge "asking"
  a_Bridge_changing : NoAttr K t.C_Bridge "changing"
  a_Bridge_addresses : NoAttr K t.C_Bridge "addresses"
  a_Bridge_sent : NoAttr K t.C_Bridge "sent"
  F_Leader_init : Fun K "__init__" "Leader.__init__" s_Leader_init t.f_Leader_init t.fd_Leader_init
  b_Leader_init : Binds K t.fd_Leader_init ["self", "root", "cost", "bridge", "port"] []
  F_Times_init : Fun K "__init__" "Times.__init__" s_Times_init t.f_Times_init t.fd_Times_init
  b_Times_init : Binds K t.fd_Times_init ["self", "oldest", "between", "wait"] []
  F_Said_init : Fun K "__init__" "Said.__init__" s_Said_init t.f_Said_init t.fd_Said_init
  b_Said_init : Binds K t.fd_Said_init ["self", "leader", "age", "times", "change", "known"] []
  F_Port_init : Fun K "__init__" "Port.__init__" s_Port_init t.f_Port_init t.fd_Port_init
  b_Port_init : Binds K t.fd_Port_init ["self", "place"] []
  F_Port_turn_off : Fun K "turn_off" "Port.turn_off" s_Port_turn_off t.f_Port_turn_off t.fd_Port_turn_off
  b_Port_turn_off : Binds K t.fd_Port_turn_off ["self"] []
  M_Port_turn_off : Meth K t.C_Port "turn_off" t.f_Port_turn_off
  F_Port_forget_notes : Fun K "forget_notes" "Port.forget_notes" s_Port_forget_notes t.f_Port_forget_notes t.fd_Port_forget_notes
  b_Port_forget_notes : Binds K t.fd_Port_forget_notes ["self"] []
  M_Port_forget_notes : Meth K t.C_Port "forget_notes" t.f_Port_forget_notes
  F_Port_start_forwarding : Fun K "start_forwarding" "Port.start_forwarding" s_Port_start_forwarding t.f_Port_start_forwarding t.fd_Port_start_forwarding
  b_Port_start_forwarding : Binds K t.fd_Port_start_forwarding ["self"] []
  M_Port_start_forwarding : Meth K t.C_Port "start_forwarding" t.f_Port_start_forwarding
  F_number_row : Fun K "number_row" "number_row" s_number_row t.f_number_row t.fd_number_row
  b_number_row : Binds K t.fd_number_row ["number", "length"] []
  m_number_row : mg "number_row" = some (.ref t.f_number_row)
  F_row_number : Fun K "row_number" "row_number" s_row_number t.f_row_number t.fd_row_number
  b_row_number : Binds K t.fd_row_number ["row"] []
  m_row_number : mg "row_number" = some (.ref t.f_row_number)
  F_message_frame : Fun K "message_frame" "message_frame" s_message_frame t.f_message_frame t.fd_message_frame
  b_message_frame : Binds K t.fd_message_frame ["own_id", "body"] []
  m_message_frame : mg "message_frame" = some (.ref t.f_message_frame)
  F_changed_frame : Fun K "changed_frame" "changed_frame" s_changed_frame t.f_changed_frame t.fd_changed_frame
  b_changed_frame : Binds K t.fd_changed_frame ["own_id"] []
  m_changed_frame : mg "changed_frame" = some (.ref t.f_changed_frame)
  F_said_frame : Fun K "said_frame" "said_frame" s_said_frame t.f_said_frame t.fd_said_frame
  b_said_frame : Binds K t.fd_said_frame ["own_id", "said"] []
  m_said_frame : mg "said_frame" = some (.ref t.f_said_frame)
  F_notes_byte : Fun K "notes_byte" "notes_byte" s_notes_byte t.f_notes_byte t.fd_notes_byte
  b_notes_byte : Binds K t.fd_notes_byte ["said"] []
  m_notes_byte : mg "notes_byte" = some (.ref t.f_notes_byte)
  F_message_body : Fun K "message_body" "message_body" s_message_body t.f_message_body t.fd_message_body
  b_message_body : Binds K t.fd_message_body ["frame"] []
  m_message_body : mg "message_body" = some (.ref t.f_message_body)
  F_is_changed : Fun K "is_changed" "is_changed" s_is_changed t.f_is_changed t.fd_is_changed
  b_is_changed : Binds K t.fd_is_changed ["body"] []
  m_is_changed : mg "is_changed" = some (.ref t.f_is_changed)
  F_read_said : Fun K "read_said" "read_said" s_read_said t.f_read_said t.fd_read_said
  b_read_said : Binds K t.fd_read_said ["body"] []
  m_read_said : mg "read_said" = some (.ref t.f_read_said)
  F_row_seconds : Fun K "row_seconds" "row_seconds" s_row_seconds t.f_row_seconds t.fd_row_seconds
  b_row_seconds : Binds K t.fd_row_seconds ["row"] []
  m_row_seconds : mg "row_seconds" = some (.ref t.f_row_seconds)
  F_Addresses_init : Fun K "__init__" "Addresses.__init__" s_Addresses_init t.f_Addresses_init t.fd_Addresses_init
  b_Addresses_init : Binds K t.fd_Addresses_init ["self"] []
  F_Addresses_hear : Fun K "hear" "Addresses.hear" s_Addresses_hear t.f_Addresses_hear t.fd_Addresses_hear
  b_Addresses_hear : Binds K t.fd_Addresses_hear ["self", "address", "place"] []
  M_Addresses_hear : Meth K t.C_Addresses "hear" t.f_Addresses_hear
  F_Addresses_place_of : Fun K "place_of" "Addresses.place_of" s_Addresses_place_of t.f_Addresses_place_of t.fd_Addresses_place_of
  b_Addresses_place_of : Binds K t.fd_Addresses_place_of ["self", "address"] []
  M_Addresses_place_of : Meth K t.C_Addresses "place_of" t.f_Addresses_place_of
  F_Addresses_forget_place : Fun K "forget_place" "Addresses.forget_place" s_Addresses_forget_place t.f_Addresses_forget_place t.fd_Addresses_forget_place
  b_Addresses_forget_place : Binds K t.fd_Addresses_forget_place ["self", "place"] []
  M_Addresses_forget_place : Meth K t.C_Addresses "forget_place" t.f_Addresses_forget_place
  F_Addresses_grow_older : Fun K "grow_older" "Addresses.grow_older" s_Addresses_grow_older t.f_Addresses_grow_older t.fd_Addresses_grow_older
  b_Addresses_grow_older : Binds K t.fd_Addresses_grow_older ["self", "oldest"] []
  M_Addresses_grow_older : Meth K t.C_Addresses "grow_older" t.f_Addresses_grow_older
  F_standard_times : Fun K "standard_times" "standard_times" s_standard_times t.f_standard_times t.fd_standard_times
  b_standard_times : Binds K t.fd_standard_times [] []
  m_standard_times : mg "standard_times" = some (.ref t.f_standard_times)
  F_is_better : Fun K "is_better" "is_better" s_is_better t.f_is_better t.fd_is_better
  b_is_better : Binds K t.fd_is_better ["new", "old", "own_id"] []
  m_is_better : mg "is_better" = some (.ref t.f_is_better)
  F_rank : Fun K "rank" "rank" s_rank t.f_rank t.fd_rank
  b_rank : Binds K t.fd_rank ["port"] []
  m_rank : mg "rank" = some (.ref t.f_rank)
  F_Bridge_init : Fun K "__init__" "Bridge.__init__" s_Bridge_init t.f_Bridge_init t.fd_Bridge_init
  b_Bridge_init : Binds K t.fd_Bridge_init ["self", "own_id", "how_many"] []
  F_Bridge_port_at : Fun K "port_at" "Bridge.port_at" s_Bridge_port_at t.f_Bridge_port_at t.fd_Bridge_port_at
  b_Bridge_port_at : Binds K t.fd_Bridge_port_at ["self", "place"] []
  M_Bridge_port_at : Meth K t.C_Bridge "port_at" t.f_Bridge_port_at
  F_Bridge_is_root : Fun K "is_root" "Bridge.is_root" s_Bridge_is_root t.f_Bridge_is_root t.fd_Bridge_is_root
  b_Bridge_is_root : Binds K t.fd_Bridge_is_root ["self"] []
  M_Bridge_is_root : Meth K t.C_Bridge "is_root" t.f_Bridge_is_root
  F_Bridge_is_led : Fun K "is_led" "Bridge.is_led" s_Bridge_is_led t.f_Bridge_is_led t.fd_Bridge_is_led
  b_Bridge_is_led : Binds K t.fd_Bridge_is_led ["self", "port"] []
  M_Bridge_is_led : Meth K t.C_Bridge "is_led" t.f_Bridge_is_led
  F_Bridge_leads_any_net : Fun K "leads_any_net" "Bridge.leads_any_net" s_Bridge_leads_any_net t.f_Bridge_leads_any_net t.fd_Bridge_leads_any_net
  b_Bridge_leads_any_net : Binds K t.fd_Bridge_leads_any_net ["self"] []
  M_Bridge_leads_any_net : Meth K t.C_Bridge "leads_any_net" t.f_Bridge_leads_any_net
  F_Bridge_send : Fun K "send" "Bridge.send" s_Bridge_send t.f_Bridge_send t.fd_Bridge_send
  b_Bridge_send : Binds K t.fd_Bridge_send ["self", "place", "frame"] []
  M_Bridge_send : Meth K t.C_Bridge "send" t.f_Bridge_send
  F_Bridge_tell : Fun K "tell" "Bridge.tell" s_Bridge_tell t.f_Bridge_tell t.fd_Bridge_tell
  b_Bridge_tell : Binds K t.fd_Bridge_tell ["self", "port"] []
  M_Bridge_tell : Meth K t.C_Bridge "tell" t.f_Bridge_tell
  F_Bridge_told_age : Fun K "told_age" "Bridge.told_age" s_Bridge_told_age t.f_Bridge_told_age t.fd_Bridge_told_age
  b_Bridge_told_age : Binds K t.fd_Bridge_told_age ["self"] []
  M_Bridge_told_age : Meth K t.C_Bridge "told_age" t.f_Bridge_told_age
  F_Bridge_all_tell : Fun K "all_tell" "Bridge.all_tell" s_Bridge_all_tell t.f_Bridge_all_tell t.fd_Bridge_all_tell
  b_Bridge_all_tell : Binds K t.fd_Bridge_all_tell ["self"] []
  M_Bridge_all_tell : Meth K t.C_Bridge "all_tell" t.f_Bridge_all_tell
  F_Bridge_start_asking : Fun K "start_asking" "Bridge.start_asking" s_Bridge_start_asking t.f_Bridge_start_asking t.fd_Bridge_start_asking
  b_Bridge_start_asking : Binds K t.fd_Bridge_start_asking ["self"] []
  M_Bridge_start_asking : Meth K t.C_Bridge "start_asking" t.f_Bridge_start_asking
  F_Bridge_ask : Fun K "ask" "Bridge.ask" s_Bridge_ask t.f_Bridge_ask t.fd_Bridge_ask
  b_Bridge_ask : Binds K t.fd_Bridge_ask ["self"] []
  M_Bridge_ask : Meth K t.C_Bridge "ask" t.f_Bridge_ask
  F_Bridge_choose : Fun K "choose" "Bridge.choose" s_Bridge_choose t.f_Bridge_choose t.fd_Bridge_choose
  b_Bridge_choose : Binds K t.fd_Bridge_choose ["self"] []
  M_Bridge_choose : Meth K t.C_Bridge "choose" t.f_Bridge_choose
  F_Bridge_may_be_chosen : Fun K "may_be_chosen" "Bridge.may_be_chosen" s_Bridge_may_be_chosen t.f_Bridge_may_be_chosen t.fd_Bridge_may_be_chosen
  b_Bridge_may_be_chosen : Binds K t.fd_Bridge_may_be_chosen ["self", "port"] []
  M_Bridge_may_be_chosen : Meth K t.C_Bridge "may_be_chosen" t.f_Bridge_may_be_chosen
  F_Bridge_own_leader : Fun K "own_leader" "Bridge.own_leader" s_Bridge_own_leader t.f_Bridge_own_leader t.fd_Bridge_own_leader
  b_Bridge_own_leader : Binds K t.fd_Bridge_own_leader ["self", "port"] []
  M_Bridge_own_leader : Meth K t.C_Bridge "own_leader" t.f_Bridge_own_leader
  F_Bridge_lead : Fun K "lead" "Bridge.lead" s_Bridge_lead t.f_Bridge_lead t.fd_Bridge_lead
  b_Bridge_lead : Binds K t.fd_Bridge_lead ["self", "port"] []
  M_Bridge_lead : Meth K t.C_Bridge "lead" t.f_Bridge_lead
  F_Bridge_is_to_lead : Fun K "is_to_lead" "Bridge.is_to_lead" s_Bridge_is_to_lead t.f_Bridge_is_to_lead t.fd_Bridge_is_to_lead
  b_Bridge_is_to_lead : Binds K t.fd_Bridge_is_to_lead ["self", "port"] []
  M_Bridge_is_to_lead : Meth K t.C_Bridge "is_to_lead" t.f_Bridge_is_to_lead
  F_Bridge_update_tree : Fun K "update_tree" "Bridge.update_tree" s_Bridge_update_tree t.f_Bridge_update_tree t.fd_Bridge_update_tree
  b_Bridge_update_tree : Binds K t.fd_Bridge_update_tree ["self"] []
  M_Bridge_update_tree : Meth K t.C_Bridge "update_tree" t.f_Bridge_update_tree
  F_Bridge_set_states : Fun K "set_states" "Bridge.set_states" s_Bridge_set_states t.f_Bridge_set_states t.fd_Bridge_set_states
  b_Bridge_set_states : Binds K t.fd_Bridge_set_states ["self"] []
  M_Bridge_set_states : Meth K t.C_Bridge "set_states" t.f_Bridge_set_states
  F_Bridge_set_state : Fun K "set_state" "Bridge.set_state" s_Bridge_set_state t.f_Bridge_set_state t.fd_Bridge_set_state
  b_Bridge_set_state : Binds K t.fd_Bridge_set_state ["self", "port"] []
  M_Bridge_set_state : Meth K t.C_Bridge "set_state" t.f_Bridge_set_state
  F_Bridge_block : Fun K "block" "Bridge.block" s_Bridge_block t.f_Bridge_block t.fd_Bridge_block
  b_Bridge_block : Binds K t.fd_Bridge_block ["self", "port"] []
  M_Bridge_block : Meth K t.C_Bridge "block" t.f_Bridge_block
  F_Bridge_settle : Fun K "settle" "Bridge.settle" s_Bridge_settle t.f_Bridge_settle t.fd_Bridge_settle
  b_Bridge_settle : Binds K t.fd_Bridge_settle ["self"] []
  M_Bridge_settle : Meth K t.C_Bridge "settle" t.f_Bridge_settle
  F_Bridge_find_change : Fun K "find_change" "Bridge.find_change" s_Bridge_find_change t.f_Bridge_find_change t.fd_Bridge_find_change
  b_Bridge_find_change : Binds K t.fd_Bridge_find_change ["self"] []
  M_Bridge_find_change : Meth K t.C_Bridge "find_change" t.f_Bridge_find_change
  F_Bridge_become_root : Fun K "become_root" "Bridge.become_root" s_Bridge_become_root t.f_Bridge_become_root t.fd_Bridge_become_root
  b_Bridge_become_root : Binds K t.fd_Bridge_become_root ["self"] []
  M_Bridge_become_root : Meth K t.C_Bridge "become_root" t.f_Bridge_become_root
  F_take_frame : Fun K "take_frame" "take_frame" s_take_frame t.f_take_frame t.fd_take_frame
  b_take_frame : Binds K t.fd_take_frame ["bridge", "port", "frame"] []
  m_take_frame : mg "take_frame" = some (.ref t.f_take_frame)
  F_take_message : Fun K "take_message" "take_message" s_take_message t.f_take_message t.fd_take_message
  b_take_message : Binds K t.fd_take_message ["bridge", "port", "body"] []
  m_take_message : mg "take_message" = some (.ref t.f_take_message)
  F_take_changed : Fun K "take_changed" "take_changed" s_take_changed t.f_take_changed t.fd_take_changed
  b_take_changed : Binds K t.fd_take_changed ["bridge", "port"] []
  m_take_changed : mg "take_changed" = some (.ref t.f_take_changed)
  F_take_better : Fun K "take_better" "take_better" s_take_better t.f_take_better t.fd_take_better
  b_take_better : Binds K t.fd_take_better ["bridge", "port", "said"] []
  m_take_better : mg "take_better" = some (.ref t.f_take_better)
  F_stop_being_root : Fun K "stop_being_root" "stop_being_root" s_stop_being_root t.f_stop_being_root t.fd_stop_being_root
  b_stop_being_root : Binds K t.fd_stop_being_root ["bridge"] []
  m_stop_being_root : mg "stop_being_root" = some (.ref t.f_stop_being_root)
  F_follow_root : Fun K "follow_root" "follow_root" s_follow_root t.f_follow_root t.fd_follow_root
  b_follow_root : Binds K t.fd_follow_root ["bridge", "said"] []
  m_follow_root : mg "follow_root" = some (.ref t.f_follow_root)
  F_take_other : Fun K "take_other" "take_other" s_take_other t.f_take_other t.fd_take_other
  b_take_other : Binds K t.fd_take_other ["bridge", "port", "frame"] []
  m_take_other : mg "take_other" = some (.ref t.f_take_other)
  F_pass_on : Fun K "pass_on" "pass_on" s_pass_on t.f_pass_on t.fd_pass_on
  b_pass_on : Binds K t.fd_pass_on ["bridge", "source", "target", "frame"] []
  m_pass_on : mg "pass_on" = some (.ref t.f_pass_on)
  F_pass_second : Fun K "pass_second" "pass_second" s_pass_second t.f_pass_second t.fd_pass_second
  b_pass_second : Binds K t.fd_pass_second ["bridge"] []
  m_pass_second : mg "pass_second" = some (.ref t.f_pass_second)
  F_one_more : Fun K "one_more" "one_more" s_one_more t.f_one_more t.fd_one_more
  b_one_more : Binds K t.fd_one_more ["timer"] []
  m_one_more : mg "one_more" = some (.ref t.f_one_more)
  F_is_out : Fun K "is_out" "is_out" s_is_out t.f_is_out t.fd_is_out
  b_is_out : Binds K t.fd_is_out ["timer", "seconds"] []
  m_is_out : mg "is_out" = some (.ref t.f_is_out)
  F_count_telling : Fun K "count_telling" "count_telling" s_count_telling t.f_count_telling t.fd_count_telling
  b_count_telling : Binds K t.fd_count_telling ["bridge"] []
  m_count_telling : mg "count_telling" = some (.ref t.f_count_telling)
  F_count_asking : Fun K "count_asking" "count_asking" s_count_asking t.f_count_asking t.fd_count_asking
  b_count_asking : Binds K t.fd_count_asking ["bridge"] []
  m_count_asking : mg "count_asking" = some (.ref t.f_count_asking)
  F_count_changing : Fun K "count_changing" "count_changing" s_count_changing t.f_count_changing t.fd_count_changing
  b_count_changing : Binds K t.fd_count_changing ["bridge"] []
  m_count_changing : mg "count_changing" = some (.ref t.f_count_changing)
  F_count_age : Fun K "count_age" "count_age" s_count_age t.f_count_age t.fd_count_age
  b_count_age : Binds K t.fd_count_age ["bridge", "port"] []
  m_count_age : mg "count_age" = some (.ref t.f_count_age)
  F_count_wait : Fun K "count_wait" "count_wait" s_count_wait t.f_count_wait t.fd_count_wait
  b_count_wait : Binds K t.fd_count_wait ["bridge", "port"] []
  m_count_wait : mg "count_wait" = some (.ref t.f_count_wait)
  F_count_hold : Fun K "count_hold" "count_hold" s_count_hold t.f_count_hold t.fd_count_hold
  b_count_hold : Binds K t.fd_count_hold ["bridge", "port"] []
  m_count_hold : mg "count_hold" = some (.ref t.f_count_hold)
  F_address_seconds : Fun K "address_seconds" "address_seconds" s_address_seconds t.f_address_seconds t.fd_address_seconds
  b_address_seconds : Binds K t.fd_address_seconds ["bridge"] []
  m_address_seconds : mg "address_seconds" = some (.ref t.f_address_seconds)
  F_answers : Fun K "answers" "answers" s_answers t.f_answers t.fd_answers
  b_answers : Binds K t.fd_answers ["calls"] []
  m_answers : mg "answers" = some (.ref t.f_answers)
  F_call_length : Fun K "call_length" "call_length" s_call_length t.f_call_length t.fd_call_length
  b_call_length : Binds K t.fd_call_length ["calls", "at"] []
  m_call_length : mg "call_length" = some (.ref t.f_call_length)
  F_answer_call : Fun K "answer_call" "answer_call" s_answer_call t.f_answer_call t.fd_answer_call
  b_answer_call : Binds K t.fd_answer_call ["bridge", "call"] []
  m_answer_call : mg "answer_call" = some (.ref t.f_answer_call)
  F_refusal : Fun K "refusal" "refusal" s_refusal t.f_refusal t.fd_refusal
  b_refusal : Binds K t.fd_refusal [] []
  m_refusal : mg "refusal" = some (.ref t.f_refusal)
  F_br_on : Fun K "br_on" "br_on" s_br_on t.f_br_on t.fd_br_on
  b_br_on : Binds K t.fd_br_on ["bridge", "place", "cost"] []
  m_br_on : mg "br_on" = some (.ref t.f_br_on)
  F_br_off : Fun K "br_off" "br_off" s_br_off t.f_br_off t.fd_br_off
  b_br_off : Binds K t.fd_br_off ["bridge", "place"] []
  m_br_off : mg "br_off" = some (.ref t.f_br_off)
  F_br_frame : Fun K "br_frame" "br_frame" s_br_frame t.f_br_frame t.fd_br_frame
  b_br_frame : Binds K t.fd_br_frame ["bridge", "place", "frame"] []
  m_br_frame : mg "br_frame" = some (.ref t.f_br_frame)
  F_br_second : Fun K "br_second" "br_second" s_br_second t.f_br_second t.fd_br_second
  b_br_second : Binds K t.fd_br_second ["bridge"] []
  m_br_second : mg "br_second" = some (.ref t.f_br_second)
  F_br_port : Fun K "br_port" "br_port" s_br_port t.f_br_port t.fd_br_port
  b_br_port : Binds K t.fd_br_port ["bridge", "place"] []
  m_br_port : mg "br_port" = some (.ref t.f_br_port)
  F_br_root : Fun K "br_root" "br_root" s_br_root t.f_br_root t.fd_br_root
  b_br_root : Binds K t.fd_br_root ["bridge"] []
  m_br_root : mg "br_root" = some (.ref t.f_br_root)
  F_br_find : Fun K "br_find" "br_find" s_br_find t.f_br_find t.fd_br_find
  b_br_find : Binds K t.fd_br_find ["bridge", "address"] []
  m_br_find : mg "br_find" = some (.ref t.f_br_find)
  F_take_sent : Fun K "take_sent" "take_sent" s_take_sent t.f_take_sent t.fd_take_sent
  b_take_sent : Binds K t.fd_take_sent ["bridge"] []
  m_take_sent : mg "take_sent" = some (.ref t.f_take_sent)
def fl_Leader (v0 v1 v2 v3 : V) : List (Str × V) := [("root", v0), ("cost", v1), ("bridge", v2), ("port", v3)]
theorem g_Leader_root {v0 v1 v2 v3 : V} : (fl_Leader v0 v1 v2 v3).lookup ("root" : Str) = some v0 := rfl
theorem g_Leader_cost {v0 v1 v2 v3 : V} : (fl_Leader v0 v1 v2 v3).lookup ("cost" : Str) = some v1 := rfl
theorem g_Leader_bridge {v0 v1 v2 v3 : V} : (fl_Leader v0 v1 v2 v3).lookup ("bridge" : Str) = some v2 := rfl
theorem g_Leader_port {v0 v1 v2 v3 : V} : (fl_Leader v0 v1 v2 v3).lookup ("port" : Str) = some v3 := rfl
def fl_Times (v0 v1 v2 : V) : List (Str × V) := [("oldest", v0), ("between", v1), ("wait", v2)]
theorem g_Times_oldest {v0 v1 v2 : V} : (fl_Times v0 v1 v2).lookup ("oldest" : Str) = some v0 := rfl
theorem g_Times_between {v0 v1 v2 : V} : (fl_Times v0 v1 v2).lookup ("between" : Str) = some v1 := rfl
theorem g_Times_wait {v0 v1 v2 : V} : (fl_Times v0 v1 v2).lookup ("wait" : Str) = some v2 := rfl
def fl_Said (v0 v1 v2 v3 v4 : V) : List (Str × V) := [("leader", v0), ("age", v1), ("times", v2), ("change", v3), ("known", v4)]
theorem g_Said_leader {v0 v1 v2 v3 v4 : V} : (fl_Said v0 v1 v2 v3 v4).lookup ("leader" : Str) = some v0 := rfl
theorem g_Said_age {v0 v1 v2 v3 v4 : V} : (fl_Said v0 v1 v2 v3 v4).lookup ("age" : Str) = some v1 := rfl
theorem g_Said_times {v0 v1 v2 v3 v4 : V} : (fl_Said v0 v1 v2 v3 v4).lookup ("times" : Str) = some v2 := rfl
theorem g_Said_change {v0 v1 v2 v3 v4 : V} : (fl_Said v0 v1 v2 v3 v4).lookup ("change" : Str) = some v3 := rfl
theorem g_Said_known {v0 v1 v2 v3 v4 : V} : (fl_Said v0 v1 v2 v3 v4).lookup ("known" : Str) = some v4 := rfl
def fl_Port (v0 v1 v2 v3 v4 v5 v6 v7 v8 v9 : V) : List (Str × V) := [("place", v0), ("own_number", v1), ("way_cost", v2), ("leader", v3), ("state", v4), ("age", v5), ("wait", v6), ("hold", v7), ("to_tell", v8), ("to_call_known", v9)]
theorem g_Port_place {v0 v1 v2 v3 v4 v5 v6 v7 v8 v9 : V} : (fl_Port v0 v1 v2 v3 v4 v5 v6 v7 v8 v9).lookup ("place" : Str) = some v0 := rfl
theorem g_Port_own_number {v0 v1 v2 v3 v4 v5 v6 v7 v8 v9 : V} : (fl_Port v0 v1 v2 v3 v4 v5 v6 v7 v8 v9).lookup ("own_number" : Str) = some v1 := rfl
theorem g_Port_way_cost {v0 v1 v2 v3 v4 v5 v6 v7 v8 v9 : V} : (fl_Port v0 v1 v2 v3 v4 v5 v6 v7 v8 v9).lookup ("way_cost" : Str) = some v2 := rfl
theorem g_Port_leader {v0 v1 v2 v3 v4 v5 v6 v7 v8 v9 : V} : (fl_Port v0 v1 v2 v3 v4 v5 v6 v7 v8 v9).lookup ("leader" : Str) = some v3 := rfl
theorem g_Port_state {v0 v1 v2 v3 v4 v5 v6 v7 v8 v9 : V} : (fl_Port v0 v1 v2 v3 v4 v5 v6 v7 v8 v9).lookup ("state" : Str) = some v4 := rfl
theorem g_Port_age {v0 v1 v2 v3 v4 v5 v6 v7 v8 v9 : V} : (fl_Port v0 v1 v2 v3 v4 v5 v6 v7 v8 v9).lookup ("age" : Str) = some v5 := rfl
theorem g_Port_wait {v0 v1 v2 v3 v4 v5 v6 v7 v8 v9 : V} : (fl_Port v0 v1 v2 v3 v4 v5 v6 v7 v8 v9).lookup ("wait" : Str) = some v6 := rfl
theorem g_Port_hold {v0 v1 v2 v3 v4 v5 v6 v7 v8 v9 : V} : (fl_Port v0 v1 v2 v3 v4 v5 v6 v7 v8 v9).lookup ("hold" : Str) = some v7 := rfl
theorem g_Port_to_tell {v0 v1 v2 v3 v4 v5 v6 v7 v8 v9 : V} : (fl_Port v0 v1 v2 v3 v4 v5 v6 v7 v8 v9).lookup ("to_tell" : Str) = some v8 := rfl
theorem g_Port_to_call_known {v0 v1 v2 v3 v4 v5 v6 v7 v8 v9 : V} : (fl_Port v0 v1 v2 v3 v4 v5 v6 v7 v8 v9).lookup ("to_call_known" : Str) = some v9 := rfl
theorem x_Port_turn_off {v0 v1 v2 v3 v4 v5 v6 v7 v8 v9 : V} : (fl_Port v0 v1 v2 v3 v4 v5 v6 v7 v8 v9).lookup ("turn_off" : Str) = none := rfl
theorem x_Port_forget_notes {v0 v1 v2 v3 v4 v5 v6 v7 v8 v9 : V} : (fl_Port v0 v1 v2 v3 v4 v5 v6 v7 v8 v9).lookup ("forget_notes" : Str) = none := rfl
theorem x_Port_start_forwarding {v0 v1 v2 v3 v4 v5 v6 v7 v8 v9 : V} : (fl_Port v0 v1 v2 v3 v4 v5 v6 v7 v8 v9).lookup ("start_forwarding" : Str) = none := rfl
def fl_Addresses (v0 : V) : List (Str × V) := [("heard", v0)]
theorem g_Addresses_heard {v0 : V} : (fl_Addresses v0).lookup ("heard" : Str) = some v0 := rfl
theorem x_Addresses_hear {v0 : V} : (fl_Addresses v0).lookup ("hear" : Str) = none := rfl
theorem x_Addresses_place_of {v0 : V} : (fl_Addresses v0).lookup ("place_of" : Str) = none := rfl
theorem x_Addresses_forget_place {v0 : V} : (fl_Addresses v0).lookup ("forget_place" : Str) = none := rfl
theorem x_Addresses_grow_older {v0 : V} : (fl_Addresses v0).lookup ("grow_older" : Str) = none := rfl
def fl_Bridge (v0 v1 v2 v3 v4 v5 v6 v7 v8 v9 v10 v11 v12 : V) : List (Str × V) := [("own_id", v0), ("ports", v1), ("root", v2), ("cost", v3), ("root_port", v4), ("times", v5), ("change_found", v6), ("change_there", v7), ("telling", v8), ("asking", v9), ("changing", v10), ("addresses", v11), ("sent", v12)]
theorem g_Bridge_own_id {v0 v1 v2 v3 v4 v5 v6 v7 v8 v9 v10 v11 v12 : V} : (fl_Bridge v0 v1 v2 v3 v4 v5 v6 v7 v8 v9 v10 v11 v12).lookup ("own_id" : Str) = some v0 := rfl
theorem g_Bridge_ports {v0 v1 v2 v3 v4 v5 v6 v7 v8 v9 v10 v11 v12 : V} : (fl_Bridge v0 v1 v2 v3 v4 v5 v6 v7 v8 v9 v10 v11 v12).lookup ("ports" : Str) = some v1 := rfl
theorem g_Bridge_root {v0 v1 v2 v3 v4 v5 v6 v7 v8 v9 v10 v11 v12 : V} : (fl_Bridge v0 v1 v2 v3 v4 v5 v6 v7 v8 v9 v10 v11 v12).lookup ("root" : Str) = some v2 := rfl
theorem g_Bridge_cost {v0 v1 v2 v3 v4 v5 v6 v7 v8 v9 v10 v11 v12 : V} : (fl_Bridge v0 v1 v2 v3 v4 v5 v6 v7 v8 v9 v10 v11 v12).lookup ("cost" : Str) = some v3 := rfl
theorem g_Bridge_root_port {v0 v1 v2 v3 v4 v5 v6 v7 v8 v9 v10 v11 v12 : V} : (fl_Bridge v0 v1 v2 v3 v4 v5 v6 v7 v8 v9 v10 v11 v12).lookup ("root_port" : Str) = some v4 := rfl
theorem p_Bridge_root_port {y v0 v1 v2 v3 v4 v5 v6 v7 v8 v9 v10 v11 v12 : V} : putF "root_port" y (fl_Bridge v0 v1 v2 v3 v4 v5 v6 v7 v8 v9 v10 v11 v12) = fl_Bridge v0 v1 v2 v3 y v5 v6 v7 v8 v9 v10 v11 v12 := rfl
theorem g_Bridge_times {v0 v1 v2 v3 v4 v5 v6 v7 v8 v9 v10 v11 v12 : V} : (fl_Bridge v0 v1 v2 v3 v4 v5 v6 v7 v8 v9 v10 v11 v12).lookup ("times" : Str) = some v5 := rfl
theorem g_Bridge_change_found {v0 v1 v2 v3 v4 v5 v6 v7 v8 v9 v10 v11 v12 : V} : (fl_Bridge v0 v1 v2 v3 v4 v5 v6 v7 v8 v9 v10 v11 v12).lookup ("change_found" : Str) = some v6 := rfl
theorem g_Bridge_change_there {v0 v1 v2 v3 v4 v5 v6 v7 v8 v9 v10 v11 v12 : V} : (fl_Bridge v0 v1 v2 v3 v4 v5 v6 v7 v8 v9 v10 v11 v12).lookup ("change_there" : Str) = some v7 := rfl
theorem g_Bridge_telling {v0 v1 v2 v3 v4 v5 v6 v7 v8 v9 v10 v11 v12 : V} : (fl_Bridge v0 v1 v2 v3 v4 v5 v6 v7 v8 v9 v10 v11 v12).lookup ("telling" : Str) = some v8 := rfl
theorem p_Bridge_telling {y v0 v1 v2 v3 v4 v5 v6 v7 v8 v9 v10 v11 v12 : V} : putF "telling" y (fl_Bridge v0 v1 v2 v3 v4 v5 v6 v7 v8 v9 v10 v11 v12) = fl_Bridge v0 v1 v2 v3 v4 v5 v6 v7 y v9 v10 v11 v12 := rfl
theorem g_Bridge_asking {v0 v1 v2 v3 v4 v5 v6 v7 v8 v9 v10 v11 v12 : V} : (fl_Bridge v0 v1 v2 v3 v4 v5 v6 v7 v8 v9 v10 v11 v12).lookup ("asking" : Str) = some v9 := rfl
theorem g_Bridge_changing {v0 v1 v2 v3 v4 v5 v6 v7 v8 v9 v10 v11 v12 : V} : (fl_Bridge v0 v1 v2 v3 v4 v5 v6 v7 v8 v9 v10 v11 v12).lookup ("changing" : Str) = some v10 := rfl
theorem g_Bridge_addresses {v0 v1 v2 v3 v4 v5 v6 v7 v8 v9 v10 v11 v12 : V} : (fl_Bridge v0 v1 v2 v3 v4 v5 v6 v7 v8 v9 v10 v11 v12).lookup ("addresses" : Str) = some v11 := rfl
theorem g_Bridge_sent {v0 v1 v2 v3 v4 v5 v6 v7 v8 v9 v10 v11 v12 : V} : (fl_Bridge v0 v1 v2 v3 v4 v5 v6 v7 v8 v9 v10 v11 v12).lookup ("sent" : Str) = some v12 := rfl
theorem x_Bridge_port_at {v0 v1 v2 v3 v4 v5 v6 v7 v8 v9 v10 v11 v12 : V} : (fl_Bridge v0 v1 v2 v3 v4 v5 v6 v7 v8 v9 v10 v11 v12).lookup ("port_at" : Str) = none := rfl
theorem x_Bridge_is_root {v0 v1 v2 v3 v4 v5 v6 v7 v8 v9 v10 v11 v12 : V} : (fl_Bridge v0 v1 v2 v3 v4 v5 v6 v7 v8 v9 v10 v11 v12).lookup ("is_root" : Str) = none := rfl
theorem x_Bridge_is_led {v0 v1 v2 v3 v4 v5 v6 v7 v8 v9 v10 v11 v12 : V} : (fl_Bridge v0 v1 v2 v3 v4 v5 v6 v7 v8 v9 v10 v11 v12).lookup ("is_led" : Str) = none := rfl
theorem x_Bridge_leads_any_net {v0 v1 v2 v3 v4 v5 v6 v7 v8 v9 v10 v11 v12 : V} : (fl_Bridge v0 v1 v2 v3 v4 v5 v6 v7 v8 v9 v10 v11 v12).lookup ("leads_any_net" : Str) = none := rfl
theorem x_Bridge_send {v0 v1 v2 v3 v4 v5 v6 v7 v8 v9 v10 v11 v12 : V} : (fl_Bridge v0 v1 v2 v3 v4 v5 v6 v7 v8 v9 v10 v11 v12).lookup ("send" : Str) = none := rfl
theorem x_Bridge_tell {v0 v1 v2 v3 v4 v5 v6 v7 v8 v9 v10 v11 v12 : V} : (fl_Bridge v0 v1 v2 v3 v4 v5 v6 v7 v8 v9 v10 v11 v12).lookup ("tell" : Str) = none := rfl
theorem x_Bridge_told_age {v0 v1 v2 v3 v4 v5 v6 v7 v8 v9 v10 v11 v12 : V} : (fl_Bridge v0 v1 v2 v3 v4 v5 v6 v7 v8 v9 v10 v11 v12).lookup ("told_age" : Str) = none := rfl
theorem x_Bridge_all_tell {v0 v1 v2 v3 v4 v5 v6 v7 v8 v9 v10 v11 v12 : V} : (fl_Bridge v0 v1 v2 v3 v4 v5 v6 v7 v8 v9 v10 v11 v12).lookup ("all_tell" : Str) = none := rfl
theorem x_Bridge_start_asking {v0 v1 v2 v3 v4 v5 v6 v7 v8 v9 v10 v11 v12 : V} : (fl_Bridge v0 v1 v2 v3 v4 v5 v6 v7 v8 v9 v10 v11 v12).lookup ("start_asking" : Str) = none := rfl
theorem x_Bridge_ask {v0 v1 v2 v3 v4 v5 v6 v7 v8 v9 v10 v11 v12 : V} : (fl_Bridge v0 v1 v2 v3 v4 v5 v6 v7 v8 v9 v10 v11 v12).lookup ("ask" : Str) = none := rfl
theorem x_Bridge_choose {v0 v1 v2 v3 v4 v5 v6 v7 v8 v9 v10 v11 v12 : V} : (fl_Bridge v0 v1 v2 v3 v4 v5 v6 v7 v8 v9 v10 v11 v12).lookup ("choose" : Str) = none := rfl
theorem x_Bridge_may_be_chosen {v0 v1 v2 v3 v4 v5 v6 v7 v8 v9 v10 v11 v12 : V} : (fl_Bridge v0 v1 v2 v3 v4 v5 v6 v7 v8 v9 v10 v11 v12).lookup ("may_be_chosen" : Str) = none := rfl
theorem x_Bridge_own_leader {v0 v1 v2 v3 v4 v5 v6 v7 v8 v9 v10 v11 v12 : V} : (fl_Bridge v0 v1 v2 v3 v4 v5 v6 v7 v8 v9 v10 v11 v12).lookup ("own_leader" : Str) = none := rfl
theorem x_Bridge_lead {v0 v1 v2 v3 v4 v5 v6 v7 v8 v9 v10 v11 v12 : V} : (fl_Bridge v0 v1 v2 v3 v4 v5 v6 v7 v8 v9 v10 v11 v12).lookup ("lead" : Str) = none := rfl
theorem x_Bridge_is_to_lead {v0 v1 v2 v3 v4 v5 v6 v7 v8 v9 v10 v11 v12 : V} : (fl_Bridge v0 v1 v2 v3 v4 v5 v6 v7 v8 v9 v10 v11 v12).lookup ("is_to_lead" : Str) = none := rfl
theorem x_Bridge_update_tree {v0 v1 v2 v3 v4 v5 v6 v7 v8 v9 v10 v11 v12 : V} : (fl_Bridge v0 v1 v2 v3 v4 v5 v6 v7 v8 v9 v10 v11 v12).lookup ("update_tree" : Str) = none := rfl
theorem x_Bridge_set_states {v0 v1 v2 v3 v4 v5 v6 v7 v8 v9 v10 v11 v12 : V} : (fl_Bridge v0 v1 v2 v3 v4 v5 v6 v7 v8 v9 v10 v11 v12).lookup ("set_states" : Str) = none := rfl
theorem x_Bridge_set_state {v0 v1 v2 v3 v4 v5 v6 v7 v8 v9 v10 v11 v12 : V} : (fl_Bridge v0 v1 v2 v3 v4 v5 v6 v7 v8 v9 v10 v11 v12).lookup ("set_state" : Str) = none := rfl
theorem x_Bridge_block {v0 v1 v2 v3 v4 v5 v6 v7 v8 v9 v10 v11 v12 : V} : (fl_Bridge v0 v1 v2 v3 v4 v5 v6 v7 v8 v9 v10 v11 v12).lookup ("block" : Str) = none := rfl
theorem x_Bridge_settle {v0 v1 v2 v3 v4 v5 v6 v7 v8 v9 v10 v11 v12 : V} : (fl_Bridge v0 v1 v2 v3 v4 v5 v6 v7 v8 v9 v10 v11 v12).lookup ("settle" : Str) = none := rfl
theorem x_Bridge_find_change {v0 v1 v2 v3 v4 v5 v6 v7 v8 v9 v10 v11 v12 : V} : (fl_Bridge v0 v1 v2 v3 v4 v5 v6 v7 v8 v9 v10 v11 v12).lookup ("find_change" : Str) = none := rfl
theorem x_Bridge_become_root {v0 v1 v2 v3 v4 v5 v6 v7 v8 v9 v10 v11 v12 : V} : (fl_Bridge v0 v1 v2 v3 v4 v5 v6 v7 v8 v9 v10 v11 v12).lookup ("become_root" : Str) = none := rfl
end Tb
namespace Tb
open PySem PySem.Spec PyProof.Rows L2
def notStar : Expr → Bool
  | .Starred _ _ => false
  | _ => true
theorem st1 {e : Expr} {es : List Expr} {env : Env} (h : notStar e = true) : starEach (e :: es) env = (false, eval e env) :: starEach es env := by
  cases e <;> first | rfl | exact absurd (show false = true from h) Bool.false_ne_true
theorem st2 {env : Env} {pos : Pos} : ∀ {es : List Expr}, es.all notStar = true → (backTo pos (starEach es env)).any (·.1) = false
  | [], _ => rfl
  | e :: es, h => by
    rw [List.all_cons, Bool.and_eq_true] at h
    rw [st1 h.1]
    show (false || (backTo pos (starEach es env)).any (·.1)) = false
    rw [st2 h.2]; rfl
theorem st3 {env : Env} {pos : Pos} : ∀ {es : List Expr}, es.all notStar = true → (backTo pos (starEach es env)).all (fun x => !x.1) = true
  | [], _ => rfl
  | e :: es, h => by
    rw [List.all_cons, Bool.and_eq_true] at h
    rw [st1 h.1]
    show (true && (backTo pos (starEach es env)).all (fun x => !x.1)) = true
    rw [st3 h.2]; rfl
theorem st4 {env : Env} {pos : Pos} {es : List Expr} (h : es.all notStar = true) (hl : decide (es.length < 30) = true) : ((backTo pos (starEach es env)).all (fun x => !x.1) && (backToKw pos (keywordEach [] env)).all (fun x => x.1.isSome)
      && decide (es.length + ([] : List Keyword).length + (if ([] : List Keyword).isEmpty then 0 else 1) < 30)) = true := by
  rw [st3 h]
  exact hl
def sp0 (f : Hp → VK → Prop) : Sp := fun vs H Q _ => vs = [] ∧ f H Q
def sp1 (f : V → Hp → VK → Prop) : Sp := fun vs H Q _ => ∃ a, vs = [a] ∧ f a H Q
def sp2 (f : V → V → Hp → VK → Prop) : Sp := fun vs H Q _ => ∃ a b, vs = [a, b] ∧ f a b H Q
def sp3 (f : V → V → V → Hp → VK → Prop) : Sp := fun vs H Q _ => ∃ a b c, vs = [a, b, c] ∧ f a b c H Q
def sp4 (f : V → V → V → V → Hp → VK → Prop) : Sp := fun vs H Q _ => ∃ a b c d, vs = [a, b, c, d] ∧ f a b c d H Q
def sp5 (f : V → V → V → V → V → Hp → VK → Prop) : Sp := fun vs H Q _ => ∃ a b c d e, vs = [a, b, c, d, e] ∧ f a b c d e H Q
def sp6 (f : V → V → V → V → V → V → Hp → VK → Prop) : Sp := fun vs H Q _ => ∃ a b c d e g, vs = [a, b, c, d, e, g] ∧ f a b c d e g H Q
section
variable {Q : VK} {E : XK}
theorem sp0_len {f} : ∀ (vs : List V) (H : Hp) (Q : VK) (E : XK), sp0 f vs H Q E → vs.length = 0 := fun _ _ _ _ ⟨e, _⟩ => by rw [e]; rfl
theorem sp1_len {f} : ∀ (vs : List V) (H : Hp) (Q : VK) (E : XK), sp1 f vs H Q E → vs.length = 1 := fun _ _ _ _ ⟨_, e, _⟩ => by rw [e]; rfl
theorem sp2_len {f} : ∀ (vs : List V) (H : Hp) (Q : VK) (E : XK), sp2 f vs H Q E → vs.length = 2 := fun _ _ _ _ ⟨_, _, e, _⟩ => by rw [e]; rfl
theorem sp3_len {f} : ∀ (vs : List V) (H : Hp) (Q : VK) (E : XK), sp3 f vs H Q E → vs.length = 3 := fun _ _ _ _ ⟨_, _, _, e, _⟩ => by rw [e]; rfl
theorem sp4_len {f} : ∀ (vs : List V) (H : Hp) (Q : VK) (E : XK), sp4 f vs H Q E → vs.length = 4 := fun _ _ _ _ ⟨_, _, _, _, e, _⟩ => by rw [e]; rfl
theorem sp5_len {f} : ∀ (vs : List V) (H : Hp) (Q : VK) (E : XK), sp5 f vs H Q E → vs.length = 5 := fun _ _ _ _ ⟨_, _, _, _, _, e, _⟩ => by rw [e]; rfl
theorem sp6_len {f} : ∀ (vs : List V) (H : Hp) (Q : VK) (E : XK), sp6 f vs H Q E → vs.length = 6 := fun _ _ _ _ ⟨_, _, _, _, _, _, e, _⟩ => by rw [e]; rfl
end
theorem upd_upd {H : Hp} {a : Addr} {o u : HO} : upd (upd H a o) a u = upd H a u := by
  funext b; unfold upd; by_cases e : b = a
  · rw [if_pos e, if_pos e]
  · rw [if_neg e, if_neg e, if_neg e]
theorem few {n : Nat} (h : Nat.ble (n + 1) 1000 = true := by rfl) : n < 1000 := Nat.le_of_ble_eq_true h
theorem upd_none {H : Hp} {a b : Addr} {o : HO} (h : upd H a o b = none) : H b = none := by
  unfold upd at h
  split at h
  · cases h
  · exact h
theorem upd_none_ne {H : Hp} {a b : Addr} {o : HO} (h : upd H a o b = none) : b ≠ a := by
  intro e
  rw [e, upd_same] at h
  cases h
section
variable {X : Cx} {x : Str} {pos : Pos} {i : Int}
theorem pe_gi (hg : Gl X x) (h : GI X.mg x i) (hd : (x == ("__debug__" : Str)) = false := by decide) : PE X (.Name x pos) (tC (.int i)) := by
  obtain ⟨u, e, r⟩ := h
  exact pe_glob hg e r hd
theorem pe_gr {a : Addr} (hg : Gl X x) (h : X.mg x = some (.ref a)) (hd : (x == ("__debug__" : Str)) = false := by decide) : PE X (.Name x pos) (tC (.ref a)) := pe_glob hg h rfl hd
end
structure QE (X : Cx) (e : Expr) (t : TE) : Prop where
  h : PE X e t
structure QT (X : Cx) (e : Expr) (t : TT) : Prop where
  h : PT X e t
structure QW (X : Cx) (e : Expr) (t : TT) : Prop where
  h : PW X e t
structure QA (X : Cx) (es : List Expr) (t : TA) : Prop where
  h : PA X es t
structure QS (X : Cx) (st : Stmt) (t : TS) : Prop where
  h : PS X st t
structure QB (X : Cx) (st : List Stmt) (t : TS) : Prop where
  h : PSs X st t
structure QI (X : Cx) (tg iter : Expr) (wi : TI) : Prop where
  h : PI X tg iter wi
structure QG (X : Cx) (tg : Expr) (t : TG) : Prop where
  h : PG X tg t
structure QGs (X : Cx) (ts : List Expr) (t : TGs) : Prop where
  h : PGs X ts t
structure QO (X : Cx) (e : Option Expr) (t : TO) : Prop where
  h : PO X e t
structure QTs (X : Cx) (ifs : List Expr) (t : TT) : Prop where
  h : PTs X ifs t
section
variable {X : Cx} {K : PySem.W.Frag} {a b c o e value l : Expr} {es rest : List Expr} {f x m : Str} {pos pos' apos cpos p : Pos} {ta tb tc te tv tl to td ty tx : TE} {tg : Expr} {t tk : TA} {ts : TGs} {tA tB' : TT}
theorem qv (i : Nat) {x : Str} {pos : Pos} (hN : X.N[i]? = some x := by rfl) (hv : Vis X.env.scope x := by first | exact Or.inl rfl | exact Or.inr (Or.inl rfl) | exact Or.inr (Or.inr rfl)) (hd : (x == ("__debug__" : Str)) = false := by decide)
    (hcd : (x == ("__classdict__" : Str)) = false := by decide) : QE X (.Name x pos) (tVar i) := ⟨pe_var hN hv hd hcd⟩
theorem q_int {i j pos} : QE X (.Constant (.int i) j pos) (tC (.int i)) := ⟨pe_int⟩
theorem q_bl {b j pos} : QE X (.Constant (.bool b) j pos) (tC (.bl b)) := ⟨pe_bl⟩
theorem q_non {j pos} : QE X (.Constant .none j pos) (tC .non) := ⟨pe_non⟩
theorem q_gi {i : Int} (hg : Gl X x) (h : GI X.mg x i) (hd : (x == ("__debug__" : Str)) = false := by decide) : QE X (.Name x pos) (tC (.int i)) := ⟨pe_gi hg h hd⟩
theorem q_op {op : Operator} {r : R2} (ho : OpR X (binaryOp op) r) (ha : QE X a ta) (hb : QE X b tb) : QE X (.BinOp a op b pos) (tOp r ta tb) := ⟨pe_op ho ha.h hb.h⟩
theorem q_un {op : UnaryOp} {r : V → Hp → VK → Prop} (ho : UnR X (unaryOp op) r) (ha : QE X a ta) : QE X (.UnaryOp op a pos) (tUn r ta) := ⟨pe_un ho ha.h⟩
theorem q_not (ha : QE X a ta) : QE X (.UnaryOp .Not a pos) (tNotV ta) := ⟨pe_not ha.h⟩
theorem q_one {op} (h : QE X a ta) : QE X (.BoolOp op [a] pos) ta := ⟨pe_one h.h⟩
theorem q_and (ha : QE X a ta) (hb : QE X (.BoolOp .And (b :: rest) pos) tb) : QE X (.BoolOp .And (a :: b :: rest) pos) (tAndV ta tb) := ⟨pe_and ha.h hb.h⟩
theorem q_or (ha : QE X a ta) (hb : QE X (.BoolOp .Or (b :: rest) pos) tb) : QE X (.BoolOp .Or (a :: b :: rest) pos) (tOrV ta tb) := ⟨pe_or ha.h hb.h⟩
theorem q_cmp {op : CmpOp} {r : R2} (ho : OpR X (compareOp op) r) (ha : QE X a ta) (hb : QE X b tb) (hm : behindInMarks op b = false) : QE X (.Compare a [op] [b] pos) (tOp r ta tb) := ⟨pe_cmpR ho ha.h hb.h hm⟩
theorem q_chain {op op' : CmpOp} {r r' : R2} (ho : OpR X (compareOp op) r) (ho' : OpR X (compareOp op') r') (ha : QE X a ta) (hb : QE X b tb) (hc : QE X c tc)
    (hm : lastMarks [op, op'] [b, c] = false := by with_unfolding_all rfl) : QE X (.Compare a [op, op'] [b, c] pos) (tChain r r' ta tb tc) := ⟨pe_chain ho ho' ha.h hb.h hc.h hm⟩
theorem q_ifx (hc : QT X c tA) (ha : QE X a ta) (hb : QE X b tb) : QE X (.IfExp c a b pos) (tIf tA ta tb) := ⟨pe_ifExp hc.h ha.h hb.h⟩
theorem q_fld (hK : X.K = K) (he : QE X e ta) (hb : attributeBase e f X.env (eval e X.env) = eval e X.env) : QE X (.Attribute e f pos) (tFld K ta f) := ⟨hK ▸ pe_fld he.h hb⟩
theorem k_ixl (hK : X.K = K) : IxR X (rIxL K) := hK ▸ ix_list
theorem k_ixt (hK : X.K = K) : IxR X (rIxT K) := hK ▸ ix_tup
theorem k_sl (hK : X.K = K) : SlR X (rSlL K) := hK ▸ sl_list
theorem k_eqD (hK : X.K = K) (hu : X.A.units + 64 < cLine) : OpR X (compareOp .Eq) (rEqD K) := hK ▸ op_eqD hu
theorem k_neD (hK : X.K = K) (hu : X.A.units + 64 < cLine) : OpR X (compareOp .NotEq) (rNeD K) := hK ▸ op_neD hu
theorem k_in (hK : X.K = K) : OpR X (compareOp .In) (rIn K false) := hK ▸ op_in_seq
theorem k_len (hK : X.K = K) : CallR X (.builtin "len") (fun xs H Q => ∃ p ys, xs = [.ref p] ∧ (SqL K H p ys ∨ SqT K H p ys) ∧ Q (.int ys.length) H) := hK ▸ call_len_seq
theorem k_any (hK : X.K = K) (hc : X.calm = true) : CallR X (.builtin "any") (rAny K) := hK ▸ cr_any hc
theorem q_slice {lo hi : Option Expr} {tl th : TO} {p2 : Pos} {r : V → Option Int → Option Int → Hp → VK → Prop} (hr : SlR X r) (he : QE X e te) (hl : QO X lo tl) (hu : QO X hi th) : QE X (.Subscript e (.Slice lo hi none p2) pos) (tSl r te tl th) := ⟨pe_slice hr he.h hl.h hu.h⟩
theorem qo_none : QO X none tNoPart := ⟨po_none⟩
theorem qo_some (h : QE X e te) : QO X (some e) (tPart te) := ⟨po_some h.h⟩
theorem q_ix {r : R2} (hr : IxR X r) (ha : QE X a ta) (hb : QE X b tb) (hs : PlainIx b) : QE X (.Subscript a b pos) (tOp r ta tb) := ⟨pe_ix hr ha.h hb.h hs⟩
theorem q_lst (h : QA X es t) : QE X (.List es pos) (tLst t) := ⟨pe_lst h.h⟩
theorem q_tup {x1} (h : QA X es t) : QE X (.Tuple es x1 pos) (tTup t) := ⟨pe_tup h.h⟩
theorem q_dnew : QE X (.Dict [] [] pos) tDNewK := ⟨pe_dnewK⟩
theorem q_lc {elt iter : Expr} {ifs : List Expr} {scope : Scope} {own : List (Str × Nat)} {wi : TI} {g : TG} {tt : TT} (hc : X.calm = true) (hN : X.N.Nodup) (hi : QI X tg iter wi) (ok : BlkOk X.N X.env.scope scope own)
    (hg : ∀ (s : Shared) (H : Hp) (C : Addr) (cl : List (Str × Addr)) (fp : List Addr), QG (X.blk s H scope (compEnvC scope cl C X.env) fp) tg g) (ht : ∀ (s : Shared) (H : Hp) (C : Addr) (cl : List (Str × Addr)) (fp : List Addr), QTs (X.blk s H scope (compEnvC scope cl C X.env) fp) ifs tt)
    (he : ∀ (s : Shared) (H : Hp) (C : Addr) (cl : List (Str × Addr)) (fp : List Addr), QE (X.blk s H scope (compEnvC scope cl C X.env) fp) elt te) (hs : ∀ x, foldedSetIterable iter X.env x = pure x := by intro _; rfl) :
    QE X (.ListComp elt [⟨tg, iter, ifs, 0⟩] scope pos) (tLc wi g tt te (own.map (·.2))) := ⟨pe_lc hc hN hi.h ok (fun s H C cl fp => (hg s H C cl fp).h) (fun s H C cl fp => (ht s H C cl fp).h) (fun s H C cl fp => (he s H C cl fp).h) hs⟩
theorem qts_nil : QTs X [] tYes := ⟨pts_nil⟩
theorem qts_one (h : QT X c tA) : QTs X [c] tA := ⟨pts_one h.h⟩
variable {CX : CXT} {k : Nat} {g C : Addr} {fd : FuncData} {ps : List Str} {sp : Sp} {dvs : List V} {ds : List Value} {E : XK}
theorem q_call (F : FnOk X.prog X.w X.K X.mg X.base CX k g fd ps sp) (hr : Room k X.A) (hg : Gl X x) (hm : X.mg x = some (.ref g)) (hk : PySem.W.keepIn X.K (.ref g) = true) (hb : Binds X.K fd ps ds) (hd : Vals dvs ds) (hx : Passes CX X E)
    (ha : QA X (e :: es) t) (hst : (e :: es).all notStar = true := by rfl) (hdb : (x == ("__debug__" : Str)) = false := by decide) : QE X (.Call (.Name x p) (e :: es) [] pos) (tCall sp dvs E t) :=
  ⟨pe_call F hr hg hm hk hb hd hx ha.h hdb (st1 (List.all_cons ▸ hst |> fun h => (Bool.and_eq_true_iff.mp h).1)) (st2 (List.all_cons ▸ hst |> fun h => (Bool.and_eq_true_iff.mp h).2))⟩
theorem q_call0 (F : FnOk X.prog X.w X.K X.mg X.base CX k g fd ps sp) (hr : Room k X.A) (hg : Gl X x) (hm : X.mg x = some (.ref g)) (hk : PySem.W.keepIn X.K (.ref g) = true) (hb : Binds X.K fd ps ds) (hd : Vals dvs ds) (hx : Passes CX X E)
    (hdb : (x == ("__debug__" : Str)) = false := by decide) : QE X (.Call (.Name x p) [] [] pos) (tCall sp dvs E tNil) := ⟨pe_call0 F hr hg hm hk hb hd hx hdb⟩
theorem q_make (M : Mk X.K C g) (F : FnOk X.prog X.w X.K X.mg X.base CX k g fd ps sp) (hr : Room (k + 1) X.A) (hg : Gl X x) (hm : X.mg x = some (.ref C)) (hb : Binds X.K fd ps ds) (hd : Vals dvs ds) (hx : Passes CX X E)
    (ha : QA X (e :: es) t) (hst : (e :: es).all notStar = true := by rfl) (hdb : (x == ("__debug__" : Str)) = false := by decide) : QE X (.Call (.Name x p) (e :: es) [] pos) (tMake C sp dvs E t) :=
  ⟨pe_make M F hr hg hm hb hd hx ha.h hdb (st1 (List.all_cons ▸ hst |> fun h => (Bool.and_eq_true_iff.mp h).1)) (st2 (List.all_cons ▸ hst |> fun h => (Bool.and_eq_true_iff.mp h).2))⟩
theorem q_make0 (M : Mk X.K C g) (F : FnOk X.prog X.w X.K X.mg X.base CX k g fd ps sp) (hr : Room (k + 1) X.A) (hg : Gl X x) (hm : X.mg x = some (.ref C)) (hb : Binds X.K fd ps ds) (hd : Vals dvs ds) (hx : Passes CX X E)
    (hdb : (x == ("__debug__" : Str)) = false := by decide) : QE X (.Call (.Name x p) [] [] pos) (tMake C sp dvs E tNil) := ⟨pe_make0 M F hr hg hm hb hd hx hdb⟩
theorem q_meth {pl : Sem Bool} (he : QE X o ta) (c : Cls X.K C) (hm : Meth X.K C m g) (F : FnOk X.prog X.w X.K X.mg X.base CX k g fd ps sp) (hr : Room k X.A) (hb : Binds X.K fd ps ds) (hd : Vals dvs ds) (hx : Passes CX X E) (ha : QA X (e :: es) t)
    (hst : (e :: es).all notStar = true := by rfl)
    (ht : eval (.Call (.Attribute o m apos) (e :: es) [] pos) X.env = (do
      let ov ← eval o X.env
      standAt apos.atName
      let (f, first) ← holding [ov] (getMethod ov m pl)
      callWith pos f first (backTo pos (starEach (e :: es) X.env)) (backToKw pos (keywordEach [] X.env))) := by rfl) :
    QE X (.Call (.Attribute o m apos) (e :: es) [] pos) (tMeth C m sp dvs E ta t) :=
  ⟨pe_meth (pl := pl) he.h c hm F hr hb hd hx ha.h (st1 (List.all_cons ▸ hst |> fun h => (Bool.and_eq_true_iff.mp h).1)) (st2 (List.all_cons ▸ hst |> fun h => (Bool.and_eq_true_iff.mp h).2)) ht⟩
theorem q_meth0 {pl : Sem Bool} (he : QE X o ta) (c : Cls X.K C) (hm : Meth X.K C m g) (F : FnOk X.prog X.w X.K X.mg X.base CX k g fd ps sp) (hr : Room k X.A) (hb : Binds X.K fd ps ds) (hd : Vals dvs ds) (hx : Passes CX X E)
    (ht : eval (.Call (.Attribute o m apos) [] [] pos) X.env = (do
      let ov ← eval o X.env
      standAt apos.atName
      let (f, first) ← holding [ov] (getMethod ov m pl)
      callWith pos f first (backTo pos (starEach [] X.env)) (backToKw pos (keywordEach [] X.env))) := by rfl) :
    QE X (.Call (.Attribute o m apos) [] [] pos) (tMeth C m sp dvs E ta tNil) := ⟨pe_meth0 (pl := pl) he.h c hm F hr hb hd hx ht⟩
theorem q_callB {id : String} {r : List V → Hp → VK → Prop} (hc : CallR X (.builtin id) r) (hg : Gl X x) (hm : X.mg x = none) (hv : bootBuiltins x = some (.builtin id)) (ha : QA X (e :: es) t) (hst : (e :: es).all notStar = true := by rfl) (hn : x ≠ "__name__" := by decide) (hdb : (x == ("__debug__" : Str)) = false := by decide) :
    QE X (.Call (.Name x p) (e :: es) [] pos) (tCB r t) := ⟨pe_callB hc hg hm hv ha.h hn hdb (st1 (List.all_cons ▸ hst |> fun h => (Bool.and_eq_true_iff.mp h).1)) (st2 (List.all_cons ▸ hst |> fun h => (Bool.and_eq_true_iff.mp h).2))⟩
theorem q_callTy {T : String} {r : List V → Hp → VK → Prop} (hc : CallR X (.type T) r) (hg : Gl X x) (hm : X.mg x = none) (hv : bootBuiltins x = some (.type T)) (ha : QA X (e :: es) t) (hst : (e :: es).all notStar = true := by rfl) (hn : x ≠ "__name__" := by decide) (hdb : (x == ("__debug__" : Str)) = false := by decide) :
    QE X (.Call (.Name x p) (e :: es) [] pos) (tCB r t) := ⟨pe_callTy hc hg hm hv ha.h hn hdb (st1 (List.all_cons ▸ hst |> fun h => (Bool.and_eq_true_iff.mp h).1)) (st2 (List.all_cons ▸ hst |> fun h => (Bool.and_eq_true_iff.mp h).2))⟩
theorem q_bm {T id : String} {name : Str} {r : V → List V → Hp → VK → Prop} (hK : X.K = K) (pa : PlainAttrs T) (slot : Slot T name id) (hty : typeOf (.builtin id) = pure (.type "method_descriptor")) (hm : MtR X id r) (ho : QE X o to) (ha : QA X (e :: es) t)
    (hst : (e :: es).all notStar = true := by rfl) (hlen : decide ((e :: es).length < 30) = true := by rfl) (hbase : attributeBase o name X.env (eval o X.env) = eval o X.env := by rfl) (hline : (apos.endLine == cpos.line) = true := by rfl) :
    QE X (.Call (.Attribute o name apos) (e :: es) [] cpos) (tBM K T r to t) :=
  ⟨hK ▸ pe_bm pa slot hty hm ho.h ha.h hbase (st4 hst hlen) hline (st1 (List.all_cons ▸ hst |> fun h => (Bool.and_eq_true_iff.mp h).1)) (st2 (List.all_cons ▸ hst |> fun h => (Bool.and_eq_true_iff.mp h).2))⟩
theorem q_dget2 (hu : X.A.units + 1 < cLine) (ho : QE X o td) (he : QE X a ty) (hf : QE X b tx) (m : M2 X o "get" apos a b cpos) : QE X (.Call (.Attribute o "get" apos) [a, b] [] cpos) (tDGet2 td ty tx) := ⟨pe_dget2 hu ho.h he.h hf.h m⟩
theorem q_dpop1 (ho : QE X o td) (he : QE X a ty) (m : M1 X o "pop" apos a cpos) : QE X (.Call (.Attribute o "pop" apos) [a] [] cpos) (tDPop1 td ty) := ⟨pe_dpop1 ho.h he.h m⟩
theorem q_dpop2 (ho : QE X o td) (he : QE X a ty) (hf : QE X b tx) (m : M2 X o "pop" apos a b cpos) : QE X (.Call (.Attribute o "pop" apos) [a, b] [] cpos) (tDPop2 td ty tx) := ⟨pe_dpop2 ho.h he.h hf.h m⟩
theorem qt_cmp {op : CmpOp} {r : R2} (ho : OpR X (compareOp op) r) (ha : QE X a ta) (hb : QE X b tb) (hm : behindInMarks op b = false) : QT X (.Compare a [op] [b] pos) (tTest (tOp r ta tb)) := ⟨pt_cmpR ho ha.h hb.h hm⟩
theorem qt_chain {op op' : CmpOp} {r r' : R2} (ho : OpR X (compareOp op) r) (ho' : OpR X (compareOp op') r') (ha : QE X a ta) (hb : QE X b tb) (hc : QE X c tc)
    (hm : lastMarks [op, op'] [b, c] = false := by with_unfolding_all rfl) : QT X (.Compare a [op, op'] [b, c] pos) (tTest (tChain r r' ta tb tc)) := ⟨pt_chain ho ho' ha.h hb.h hc.h hm⟩
theorem qt_not (ha : QT X a tA) : QT X (.UnaryOp .Not a pos) (tNot tA) := ⟨pt_not ha.h⟩
theorem qt_val (h : QE X e te) (he : ∀ whole, isTrue e X.env whole = (do let v ← whole; standAt e.pos; holding [v] (truthy v)) := by intro _; rfl) : QT X e (tB te) := ⟨pt_val h.h he⟩
theorem qw_and1 (ha : QT X a tA) : QW X (.BoolOp .And [a] pos) tA := ⟨pw_and1 ha.h⟩
theorem qw_or1 (ha : QT X a tA) : QW X (.BoolOp .Or [a] pos) tA := ⟨pw_or1 ha.h⟩
theorem qw_and (ha : QT X a tA) (hb : QW X (.BoolOp .And (b :: rest) pos) tB') : QW X (.BoolOp .And (a :: b :: rest) pos) (tAnd tA tB') := ⟨pw_and ha.h hb.h⟩
theorem qw_or (ha : QT X a tA) (hb : QW X (.BoolOp .Or (b :: rest) pos) tB') : QW X (.BoolOp .Or (a :: b :: rest) pos) (tOr tA tB') := ⟨pw_or ha.h hb.h⟩
theorem QW.pt (h : QW X e tA) : QT X e tA := ⟨h.h.pt⟩
theorem qa_nil : QA X [] tNil := ⟨pa_nil⟩
theorem qac (ha : QE X e te) (hr : QA X es t) (hs : notStar e = true := by rfl) : QA X (e :: es) (tCons te t) := ⟨pa_cons ha.h hr.h (st1 hs)⟩
theorem qi_list (hK : X.K = K) (hl : QE X l tl) : QI X tg l (iList K tl) := ⟨hK ▸ pi_list hl.h⟩
theorem qi_range2 (hg : Gl X "range") (hm : X.mg "range" = none) (ha : QA X [a, b] t) (hs : notStar a = true := by rfl) (hs2 : notStar b = true := by rfl) : QI X tg (.Call (.Name "range" p) [a, b] [] pos) (iRng2 t) := ⟨pi_range2 hg hm ha.h (by rw [st1 hs, st1 hs2]; rfl) (st1 hs2)⟩
theorem qi_range3 (hg : Gl X "range") (hm : X.mg "range" = none) (ha : QA X [a, b, c] t) (hst : [a, b, c].all notStar = true := by rfl) : QI X tg (.Call (.Name "range" p) [a, b, c] [] pos) (iRng3 t) :=
  ⟨pi_range3 hg hm ha.h (st1 (List.all_cons ▸ hst |> fun h => (Bool.and_eq_true_iff.mp h).1)) (st2 (List.all_cons ▸ hst |> fun h => (Bool.and_eq_true_iff.mp h).2))⟩
theorem qi_items {elts : List Expr} {kk : Nat} {tpos : Pos} (he : QE X e td) (hbase : attributeBase e "items" X.env (eval e X.env) = eval e X.env := by rfl) (hline : (apos.endLine == cpos.line) = true := by rfl) :
    QI X (.Tuple elts kk tpos) (.Call (.Attribute e "items" apos) [] [] cpos) (iItems td) := ⟨pi_items he.h hbase hline⟩
theorem qg_name {i : Nat} (hN : X.N.Nodup) (hi : X.N[i]? = some x) (hx : Loc X.env.scope x) (hf : X.fn x = true ∨ X.env.scope.names.lookup x = some .local := by first | exact .inl rfl | exact .inr rfl | assumption) : QG X (.Name x pos) (gName i) := ⟨pg_name hN hi hx hf⟩
theorem qgs_nil : QGs X [] gNil := ⟨pgs_nil⟩
theorem qgs_cons {t : TG} {u : TGs} (h1 : QG X e t) (h2 : QGs X es u) (hs : (assignEach (e :: es) X.env).map (·.2) = assign e X.env :: (assignEach es X.env).map (·.2) := by rfl) : QGs X (e :: es) (gCons t u) := ⟨pgs_cons h1.h h2.h hs⟩
theorem qg_tup {k n : Nat} (hK : X.K = K) (hc : X.calm = true) (h : QGs X es ts)
    (hn : (assignEach es X.env).length = n := by rfl) (hst : (assignEach es X.env).findIdx? (·.1) = none := by rfl) : QG X (.Tuple es k pos) (gTup K n ts) := ⟨hK ▸ pg_tup hc h.h hn hst⟩
variable {st : Stmt} {sts : List Stmt} {u v : TS}
theorem qb_nil : QB X [] tNext := ⟨pss_nil⟩
theorem qb_one (h : QS X st u) : QB X [st] u := ⟨pss_one h.h⟩
theorem qb_cons (h1 : QS X st u) (h2 : QB X sts v) : QB X (st :: sts) (tSeq u v) := ⟨pss_cons h1.h h2.h⟩
theorem qs_expr (he : QE X e te) (hs : swapsWith e none pos.line X.env = pure false := by rfl) : QS X (.Expr e pos) (tDrop te) := ⟨ps_expr he.h hs⟩
theorem qs_ret (he : QE X e te) : QS X (.Return (some e) pos) (tRet te) := ⟨ps_ret he.h⟩
theorem qs_retN : QS X (.Return none pos) tRetN := ⟨ps_retN⟩
theorem qs_if {x y : List Stmt} (hc : QT X c tA) (ha : QB X x u) (hb : QB X y v) : QS X (.If c x y pos) (tIfS tA u v) := ⟨ps_if hc.h ha.h hb.h⟩
theorem qs_set {i : Nat} (hN : X.N.Nodup) (hi : X.N[i]? = some x) (hx : Loc X.env.scope x) (he : QE X e te) (hs : swapsWith e (some (.Name x pos')) pos.line X.env = pure false := by rfl) (hf : X.fn x = true ∨ X.env.scope.names.lookup x = some .local := by first | exact .inl rfl | exact .inr rfl | assumption) :
    QS X (.Assign [.Name x pos'] e pos) (tAsg te (gName i)) := ⟨ps_set hN hi hx he.h hs hf⟩
theorem qs_fld (hK : X.K = K) (ha : QE X o ta) (hv : QE X value tv) (hs : swapsWith value (some (.Attribute o f pos')) pos.line X.env = pure false) : QS X (.Assign [.Attribute o f pos'] value pos) (sFld K ta tv f) := ⟨hK ▸ ps_fld ha.h hv.h hs⟩
theorem qs_dput (hu : X.A.units + 1 < cLine) (ho : QE X o td) (hi : QE X e ty) (hv : QE X value tv) (hs : swapsWith value (some (.Subscript o e pos')) pos.line X.env = pure false) : QS X (.Assign [.Subscript o e pos'] value pos) (sDPut td ty tv) := ⟨ps_dput hu ho.h hi.h hv.h hs⟩
theorem qs_while (hp : PassesOwn (model X.prog X.w) X.A X.env X.xe) (hc : QT X c tA) (hb : QB X sts u) : QS X (.While c sts [] pos) (tWhile tA u) := ⟨ps_while hp hc.h hb.h⟩
theorem qs_for {iter : Expr} {wi : TI} {g : TG} (hp : PassesOwn (model X.prog X.w) X.A X.env X.xe) (hc : X.calm = true) (hi : QI X tg iter wi) (hg : QG X tg g) (hb : QB X sts u)
    (hs : ∀ x, foldedSetIterable iter X.env x = pure x := by intro _; rfl) : QS X (.For tg iter sts [] pos) (tFor wi g u) := ⟨ps_for hp hc hi.h hg.h hb.h hs⟩
theorem qs_lock (h : QS X st u) : QS X st (tLock u) := ⟨ps_lock h.h⟩
end
section
variable {P : Program} {w : World} {K : PySem.W.Frag} {mg : Str → Option Value} {base : Heap}
theorem _root_.L2.Fun.okQ {x qual : Str} {st : Stmt} {f : Addr} {fd : FuncData} {N ps : List Str} {k : Nat} {sp : Sp} (F : Fun K x qual st f fd) (S : FnScope N ps (defScope st)) (len : ∀ vs H Q E, sp vs H Q E → vs.length = ps.length)
    (hbody : ∀ (cdv : Value) (A : Around) (outer : List Env) (s : Shared) (H : Hp) (vs : List V) (Q : VK) (E : XK), Room k (A.deeper (envOfC qual (defScope st) s.heap.objs.size f cdv)) → sp vs H Q E →
      ∃ t, QB (cxOf CX0 P w K mg base N qual (defScope st) f cdv A outer s H E).nox (defBody st) t ∧ t { nx := fun _ H' => Q .non H', rt := Q } (start N vs) H) : FnOk P w K mg base CX0 (k + 1) f fd ps sp :=
  F.ok S len fun cdv A outer s H vs Q E hr h => let ⟨t, q, z⟩ := hbody cdv A outer s H vs Q E hr h; ⟨t, q.h, z⟩
end
def bts (l : List Nat) : List V := l.map fun (n : Nat) => V.int (n : Int)
theorem bts_len (l : List Nat) : (bts l).length = l.length := List.length_map ..
theorem bts_append (l m : List Nat) : bts (l ++ m) = bts l ++ bts m := List.map_append ..
def NewL (Q : VK) (H : Hp) (xs : List V) : Prop := ∀ H' p, Same H H' → H p = none → H' p = some (.lst xs) → Q (.ref p) H'
theorem _root_.L2.Same.new {H : Hp} {a : Addr} {o : HO} (h : H a = none) : Same H (upd H a o) := fun b u e => by rw [upd_ne (ne_of_none e h)]; exact e
theorem _root_.L2.Same.new2 {H H' : Hp} {a : Addr} {o : HO} (s : Same H H') (h : H' a = none) : Same H (upd H' a o) := s.trans (Same.new h)
theorem bts_get {l : List Nat} {i : Nat} {y : V} (h : (bts l)[i]? = some y) : ∃ b, l[i]? = some b ∧ y = .int (b : Int) := by
  unfold bts at h
  rw [List.getElem?_map] at h
  cases e : l[i]? with
  | none => rw [e] at h; cases h
  | some b => rw [e] at h; exact ⟨b, rfl, (Option.some.inj h).symm⟩
theorem take_snoc {α : Type} {l : List α} {i : Nat} {x : α} (h : l[i]? = some x) : l.take (i + 1) = l.take i ++ [x] := by
  rw [List.take_add_one, h]; rfl
theorem lc_rangeC {lo c : Int} {n : Nat} {g : TG} {tt : TT} {te : TE} {vs : List Nat} {σ : L2.St} {H1 : Hp} {D : Addr} {Qd : Hp → Prop} (Pv : Nat → Hp → Prop) (h0 : Pv 0 (upd H1 D (.lst [])))
    (hs : ∀ i H, i < n → Pv i H → g (.int (lo + (i : Nat) * c)) (wipe σ vs) H fun σ2 H2 => wipe σ2 vs = wipe σ vs ∧ tt σ2 H2 fun b H3 =>
      if b = true then te σ2 H3 fun y H4 => ∃ acc, H4 D = some (.lst acc) ∧ acc.length < sizeLine ∧ Pv (i + 1) (upd H4 D (.lst (acc ++ [y]))) else Pv (i + 1) H3) (hd : ∀ H, Pv n H → Qd H) :
    ∃ W : Nat → Nat → Hp → Prop, (∃ m, W 0 m (upd H1 D (.lst []))) ∧ ∀ i m H, W i m H →
      ((Itc lo c n).stop i H ∧ Qd H) ∨ ((Itc lo c n).go i H ∧ ∃ Nx : Hp → Prop, (∀ H', Nx H' → ∃ m', m' < m ∧ W (i + 1) m' H') ∧ ∀ x H', (Itc lo c n).yld i H x H' → g x (wipe σ vs) H' fun σ2 H2 => wipe σ2 vs = wipe σ vs ∧ tt σ2 H2 fun b H3 =>
        if b = true then te σ2 H3 fun y H4 => ∃ acc, H4 D = some (.lst acc) ∧ acc.length < sizeLine ∧ Nx (upd H4 D (.lst (acc ++ [y]))) else Nx H3) := by
  refine ⟨fun i m H => m = n - i ∧ i ≤ n ∧ Pv i H, ⟨n, by simp, Nat.zero_le _, h0⟩, ?_⟩
  rintro i m H ⟨rfl, hi, p⟩
  by_cases hlt : i < n
  · refine .inr ⟨hlt, Pv (i + 1), fun H' p' => ⟨n - (i + 1), by omega, rfl, hlt, p'⟩, fun x H' y => ?_⟩
    obtain ⟨e, y⟩ := y
    subst e y
    exact hs i _ hlt p
  · have e : i = n := by omega
    subst e
    exact .inl ⟨Nat.le_refl _, hd H p⟩
theorem yes_lc {σ : L2.St} {H : Hp} {A B : Hp → Prop} (h : A H) : tYes σ H (fun b H3 => if b = true then A H3 else B H3) := by
  show if true = true then A H else B H
  rw [if_pos rfl]
  exact h
theorem be_take {n x i : Nat} (h : i < n) : (Ql46.be n x).take (i + 1) = (Ql46.be n x).take i ++ [x / 256 ^ (n - 1 - i) % 256] := by
  unfold Ql46.be
  rw [← List.map_take, ← List.map_take, List.take_range, List.take_range, Nat.min_eq_left (by omega), Nat.min_eq_left (by omega), List.range_succ, List.map_append]
  rfl
theorem be_len (n x : Nat) : (Ql46.be n x).length = n := by unfold Ql46.be; rw [List.length_map, List.length_range]
theorem byte_of {x n i : Nat} (h : i < n) : Builtin.bitAnd ((x : Int) / 2 ^ (8 * ((n : Int) - 1 + (i : Nat) * (-1))).toNat) 255 = ((x / 256 ^ (n - 1 - i) % 256 : Nat) : Int) := by
  have e : (8 * ((n : Int) - 1 + (i : Nat) * (-1))).toNat = 8 * (n - 1 - i) := by omega
  rw [e, PyProof.Rows.bitAnd_m8, Int.natCast_emod, Int.natCast_ediv, Int.natCast_pow, show (((256 : Nat) : Int) ^ (n - 1 - i)) = 2 ^ (8 * (n - 1 - i)) by rw [Int.pow_mul]; rfl]
  rfl
theorem ifB {c : Bool} {A B : Prop} (h1 : c = true → A) (h2 : c = false → B) : if c = true then A else B := by
  cases c
  · rw [if_neg Bool.false_ne_true]; exact h2 rfl
  · rw [if_pos rfl]; exact h1 rfl
theorem ifD {p A B : Prop} [Decidable p] (h1 : p → A) (h2 : ¬ p → B) : if decide p = true then A else B := by
  by_cases h : p
  · rw [if_pos (decide_eq_true h)]; exact h1 h
  · rw [if_neg (by rw [decide_eq_false h]; exact Bool.false_ne_true)]; exact h2 h
theorem ifND {p A B : Prop} [Decidable p] (h1 : ¬ p → A) (h2 : p → B) : if (!decide p) = true then A else B := by
  by_cases h : p
  · rw [if_neg (by rw [decide_eq_true h]; exact Bool.false_ne_true)]; exact h2 h
  · rw [if_pos (by rw [decide_eq_false h]; rfl)]; exact h1 h
section
variable {Q : VK} {H : Hp} {xs zs : List V}
end
theorem sz {n m : Nat} (h : Nat.ble n m = true := by rfl) : n ≤ m := Nat.le_of_ble_eq_true h
theorem szl {n : Nat} (h : n ≤ 10000) : n ≤ sizeLine := Nat.le_trans h (by decide)
theorem szb {m : List Nat} {k : Nat} (h : k + m.length ≤ 10000) : k + (bts m).length ≤ sizeLine := by rw [bts_len]; exact szl h
end Tb
namespace Tb
open PySem PySem.Spec PyProof.Rows L2
section
variable {P : Program} {w : World} {K : PySem.W.Frag} {mg : Str → Option Value} {base : Heap} {t : Adr}
def sp_Leader_init (K : PySem.W.Frag) (t : Adr) : Sp := sp5 fun x a b c d H Q => ∃ p dx, x = .ref p ∧ H p = some (.ins t.C_Leader dx []) ∧ Q .non (upd H p (.ins t.C_Leader dx (fl_Leader a b c d)))
theorem ok_Leader_init (T : Txt K mg t) : FnOk P w K mg base CX0 1 t.f_Leader_init t.fd_Leader_init ["self", "root", "cost", "bridge", "port"] (sp_Leader_init K t) := by
  refine T.F_Leader_init.okQ sc_Leader_init sp5_len (fun cdv A outer s H vs Q E hr h => ?_)
  obtain ⟨x0, x1, x2, x3, x4, rfl, h⟩ := h
  obtain ⟨p, dx, rfl, hp, k⟩ := h
  refine ⟨_, (qb_cons (qs_fld (K := K) rfl (qv 0) (qv 1) rfl) (qb_cons (qs_fld (K := K) rfl (qv 0) (qv 2) rfl) (qb_cons (qs_fld (K := K) rfl (qv 0) (qv 3) rfl) (qb_one (qs_fld (K := K) rfl (qv 0) (qv 4) rfl))))), ?_⟩
  refine ⟨_, rfl, _, rfl, p, _, dx, _, rfl, hp, T.l_Leader, T.a_Leader_root, few, ?_⟩
  refine ⟨_, rfl, _, rfl, p, _, dx, _, rfl, upd_same, T.l_Leader, T.a_Leader_cost, few, ?_⟩
  refine ⟨_, rfl, _, rfl, p, _, dx, _, rfl, upd_same, T.l_Leader, T.a_Leader_bridge, few, ?_⟩
  refine ⟨_, rfl, _, rfl, p, _, dx, _, rfl, upd_same, T.l_Leader, T.a_Leader_port, few, ?_⟩
  rw [upd_upd, upd_upd, upd_upd]
  exact k
def sp_Times_init (K : PySem.W.Frag) (t : Adr) : Sp := sp4 fun x a b c H Q => ∃ p dx, x = .ref p ∧ H p = some (.ins t.C_Times dx []) ∧ Q .non (upd H p (.ins t.C_Times dx (fl_Times a b c)))
theorem ok_Times_init (T : Txt K mg t) : FnOk P w K mg base CX0 1 t.f_Times_init t.fd_Times_init ["self", "oldest", "between", "wait"] (sp_Times_init K t) := by
  refine T.F_Times_init.okQ sc_Times_init sp4_len (fun cdv A outer s H vs Q E hr h => ?_)
  obtain ⟨x0, x1, x2, x3, rfl, h⟩ := h
  obtain ⟨p, dx, rfl, hp, k⟩ := h
  refine ⟨_, (qb_cons (qs_fld (K := K) rfl (qv 0) (qv 1) rfl) (qb_cons (qs_fld (K := K) rfl (qv 0) (qv 2) rfl) (qb_one (qs_fld (K := K) rfl (qv 0) (qv 3) rfl)))), ?_⟩
  refine ⟨_, rfl, _, rfl, p, _, dx, _, rfl, hp, T.l_Times, T.a_Times_oldest, few, ?_⟩
  refine ⟨_, rfl, _, rfl, p, _, dx, _, rfl, upd_same, T.l_Times, T.a_Times_between, few, ?_⟩
  refine ⟨_, rfl, _, rfl, p, _, dx, _, rfl, upd_same, T.l_Times, T.a_Times_wait, few, ?_⟩
  rw [upd_upd, upd_upd]
  exact k
def sp_Said_init (K : PySem.W.Frag) (t : Adr) : Sp := sp6 fun x a b c d e H Q => ∃ p dx, x = .ref p ∧ H p = some (.ins t.C_Said dx []) ∧ Q .non (upd H p (.ins t.C_Said dx (fl_Said a b c d e)))
theorem ok_Said_init (T : Txt K mg t) : FnOk P w K mg base CX0 1 t.f_Said_init t.fd_Said_init ["self", "leader", "age", "times", "change", "known"] (sp_Said_init K t) := by
  refine T.F_Said_init.okQ sc_Said_init sp6_len (fun cdv A outer s H vs Q E hr h => ?_)
  obtain ⟨x0, x1, x2, x3, x4, x5, rfl, h⟩ := h
  obtain ⟨p, dx, rfl, hp, k⟩ := h
  refine ⟨_, (qb_cons (qs_fld (K := K) rfl (qv 0) (qv 1) rfl) (qb_cons (qs_fld (K := K) rfl (qv 0) (qv 2) rfl) (qb_cons (qs_fld (K := K) rfl (qv 0) (qv 3) rfl) (qb_cons (qs_fld (K := K) rfl (qv 0) (qv 4) rfl) (qb_one (qs_fld (K := K) rfl (qv 0) (qv 5) rfl)))))), ?_⟩
  refine ⟨_, rfl, _, rfl, p, _, dx, _, rfl, hp, T.l_Said, T.a_Said_leader, few, ?_⟩
  refine ⟨_, rfl, _, rfl, p, _, dx, _, rfl, upd_same, T.l_Said, T.a_Said_age, few, ?_⟩
  refine ⟨_, rfl, _, rfl, p, _, dx, _, rfl, upd_same, T.l_Said, T.a_Said_times, few, ?_⟩
  refine ⟨_, rfl, _, rfl, p, _, dx, _, rfl, upd_same, T.l_Said, T.a_Said_change, few, ?_⟩
  refine ⟨_, rfl, _, rfl, p, _, dx, _, rfl, upd_same, T.l_Said, T.a_Said_known, few, ?_⟩
  rw [upd_upd, upd_upd, upd_upd, upd_upd]
  exact k
def sp_number_row (K : PySem.W.Frag) (t : Adr) : Sp := sp2 fun a b H Q => ∃ x n : Nat, a = .int x ∧ b = .int n ∧ n ≤ 100 ∧ NewL Q H (bts (Ql46.be n x))
theorem ok_number_row (T : Txt K mg t) : FnOk P w K mg base CX0 1 t.f_number_row t.fd_number_row ["number", "length"] (sp_number_row K t) := by
  refine T.F_number_row.okQ sc_number_row sp2_len (fun cdv A outer s H vs Q E hr h => ?_)
  obtain ⟨x0, x1, rfl, h⟩ := h
  obtain ⟨x, n, rfl, rfl, hn, k⟩ := h
  refine ⟨_, (qb_one (qs_ret (q_lc (own := [("place", 2)]) rfl sc_number_row.nd (qi_range3 rfl T.n_range (qac (q_op op_sub (qv 1) q_int) (qac (q_un un_neg q_int) (qac (q_un un_neg q_int) qa_nil)))) (blkOk_by rfl) (fun _ _ _ _ _ => (qg_name (i := 2) sc_number_row.nd rfl (Or.inl rfl))) (fun _ _ _ _ _ => qts_nil) (fun _ _ _ _ _ => (q_op op_and (q_op op_shr (qv 0) (q_op op_mul q_int (qv 2))) q_int))))), ?_⟩
  refine ⟨_, rfl, _, _, rfl, rfl, _, rfl, _, rfl, _, _, _, n, rfl, ?_, fun D hD => lc_rangeC (fun i H' => H' = upd H D (.lst (bts ((Ql46.be n x).take i)))) rfl (fun i H' hi e => ?_) (fun H' e => ?_)⟩
  · have q := RgC.neg (i := (n : Int) - 1) (j := -1) (by omega) (by omega) (by omega) (by omega)
    have e : ((n : Int) - 1 - -1).toNat = n := by omega
    rw [e] at q
    exact q
  · subst e
    refine ⟨rfl, yes_lc ?_⟩
    refine ⟨_, rfl, _, rfl, _, _, rfl, rfl, .inl ⟨by decide, by decide⟩, _, _, rfl, rfl, by show (0 : Int) ≤ 8 * (n - 1 + (i : Nat) * (-1)); omega, _, _, rfl, rfl, _, upd_same, ?_, ?_⟩
    · rw [bts_len, List.length_take]
      exact Nat.lt_of_le_of_lt (Nat.min_le_left _ _) (Nat.lt_of_lt_of_le hi (Nat.le_trans hn (by decide)))
    · rw [upd_upd, be_take hi, bts_append]
      dsimp only
      rw [byte_of hi]
      rfl
  · subst e
    rw [List.take_of_length_le (Nat.le_of_eq (be_len n x))]
    exact k _ D (Same.new hD) hD upd_same
def sp_row_number (K : PySem.W.Frag) (t : Adr) : Sp := sp1 fun x H Q => ∃ a l, x = .ref a ∧ SqL K H a (bts l) ∧ Q (.int (Ql46.num l : Nat)) H
theorem num_take {l : List Nat} {i b : Nat} (h : l[i]? = some b) : Ql46.num (l.take (i + 1)) = 256 * Ql46.num (l.take i) + b := by
  rw [take_snoc h]
  unfold Ql46.num
  rw [List.foldl_append]
  rfl
theorem ok_row_number (T : Txt K mg t) : FnOk P w K mg base CX0 1 t.f_row_number t.fd_row_number ["row"] (sp_row_number K t) := by
  refine T.F_row_number.okQ sc_row_number sp1_len (fun cdv A outer s H vs Q E hr h => ?_)
  obtain ⟨x0, rfl, h⟩ := h
  obtain ⟨a, l, rfl, hS, k⟩ := h
  refine ⟨_, (qb_cons (qs_set (i := 1) sc_row_number.nd rfl (Or.inl rfl) q_int) (qb_cons (qs_for PassesOwn.never rfl (qi_list (K := K) rfl (qv 0)) (qg_name (i := 2) sc_row_number.nd rfl (Or.inl rfl)) (qb_one (qs_set (i := 1) sc_row_number.nd rfl (Or.inl rfl) (q_op op_add (q_op op_mul (qv 1) q_int) (qv 2))))) (qb_one (qs_ret (qv 1))))), ?_⟩
  refine ⟨_, rfl, a, rfl, ⟨_, hS⟩, for_list (K := K) (a := a) (xs := bts l) (fun i σ H' => H' = H ∧ ∃ v, σ = [some (.ref a), some (.int (Ql46.num (l.take i) : Nat)), v]) ⟨rfl, _, rfl⟩ (fun i σ H' _ ⟨e, _⟩ => e ▸ hS) ?_ ?_⟩
  · rintro i y σ H' hi ⟨rfl, v, rfl⟩
    obtain ⟨b, hb, rfl⟩ := bts_get hi
    refine ⟨_, rfl, _, _, rfl, rfl, .inr ⟨by decide, by decide⟩, _, rfl, _, _, rfl, rfl, rfl, some (.int b), ?_⟩
    rw [num_take hb]
    show [_, some (V.int ((Ql46.num (l.take i) : Int) * 256 + b)), _] = _
    rw [show (Ql46.num (l.take i) : Int) * 256 + b = ((256 * Ql46.num (l.take i) + b : Nat) : Int) by omega]
  · rintro σ H' ⟨rfl, v, rfl⟩
    rw [bts_len, List.take_length]
    exact ⟨_, rfl, k⟩
def sp_row_seconds (K : PySem.W.Frag) (t : Adr) : Sp := sp1 fun x H Q => ∃ a l, x = .ref a ∧ SqL K H a (bts l) ∧ Q (.int (Ql46.num l / 256 : Nat)) H
theorem ok_row_seconds (T : Txt K mg t) : FnOk P w K mg base CX0 2 t.f_row_seconds t.fd_row_seconds ["row"] (sp_row_seconds K t) := by
  refine T.F_row_seconds.okQ sc_row_seconds sp1_len (fun cdv A outer s H vs Q E hr h => ?_)
  obtain ⟨x0, rfl, h⟩ := h
  obtain ⟨a, l, rfl, hS, k⟩ := h
  refine ⟨_, (qb_one (qs_ret (q_op op_fdiv (q_call (ok_row_number (K := K) T) (hr.mono (by decide)) rfl T.m_row_number T.F_row_number.kp T.b_row_number .nil pass0 (qac (qv 0) qa_nil)) q_int))), ?_⟩
  refine ⟨_, rfl, _, rfl, a, l, rfl, hS, _, _, rfl, rfl, ⟨by decide, by decide⟩, ?_⟩
  exact k
def frm (id : Nat) (m : List Nat) : List Nat := Ql46.be 6 Ql46.GROUP ++ (Ql46.be 6 id ++ (Ql46.be 2 (3 + m.length) ++ ([0x42, 0x42, 0x03] ++ m)))
theorem be6 (x : Nat) : Ql46.be 6 x = [x / 1099511627776 % 256, x / 4294967296 % 256, x / 16777216 % 256, x / 65536 % 256, x / 256 % 256, x / 1 % 256] := rfl
theorem framed_frm (b : Ql46.Bridge) (m : List Nat) : Ql46.framed b m = frm b.id m := by
  unfold Ql46.framed frm Ql46.own
  rw [be6 (b.id % 2 ^ 48), be6 b.id]
  have e : (2 : Nat) ^ 48 = 281474976710656 := by decide
  rw [e]
  congr 1
  congr 1
  simp only [List.cons.injEq, and_true]
  refine ⟨?_, ?_, ?_, ?_, ?_, ?_⟩ <;> omega
theorem frm_len (id : Nat) (m : List Nat) : (frm id m).length = 17 + m.length := by
  unfold frm
  simp only [List.length_append, be_len, List.length_cons, List.length_nil]
  omega
def sp_message_frame (K : PySem.W.Frag) (t : Adr) : Sp := sp2 fun x y H Q => ∃ (id : Nat) (a : Addr) (m : List Nat), x = .int id ∧ y = .ref a ∧ H a = some (.lst (bts m)) ∧ m.length ≤ 1000 ∧ NewL Q H (bts (frm id m))
theorem ok_message_frame (T : Txt K mg t) : FnOk P w K mg base CX0 2 t.f_message_frame t.fd_message_frame ["own_id", "body"] (sp_message_frame K t) := by
  refine T.F_message_frame.okQ sc_message_frame sp2_len (fun cdv A outer s H vs Q E hr h => ?_)
  obtain ⟨x0, x1, rfl, h⟩ := h
  obtain ⟨id, a, m, rfl, rfl, ha, hm, k⟩ := h
  refine ⟨_, (qb_cons (qs_set (i := 2) sc_message_frame.nd rfl (Or.inl rfl) (q_op op_cat (q_lst (qac q_int (qac q_int (qac q_int qa_nil)))) (qv 1))) (qb_one (qs_ret (q_op op_cat (q_op op_cat (q_op op_cat (q_call (ok_number_row (K := K) T) (hr.mono (by decide)) rfl T.m_number_row T.F_number_row.kp T.b_number_row .nil pass0 (qac (q_gi rfl T.c_BRIDGES_ADDRESS) (qac q_int qa_nil))) (q_call (ok_number_row (K := K) T) (hr.mono (by decide)) rfl T.m_number_row T.F_number_row.kp T.b_number_row .nil pass0 (qac (qv 0) (qac q_int qa_nil)))) (q_call (ok_number_row (K := K) T) (hr.mono (by decide)) rfl T.m_number_row T.F_number_row.kp T.b_number_row .nil pass0 (qac (q_callB (k_len (K := K) rfl) rfl T.n_len PySem.boot_len (qac (qv 2) qa_nil)) (qac q_int qa_nil)))) (qv 2))))), ?_⟩
  refine ⟨by decide, fun l1 f1 => ⟨_, rfl, l1, a, _, bts m, rfl, rfl, upd_same, Same.new f1 _ _ ha, szb (k := 3) (by omega), fun l2 f2 => ?_⟩⟩
  refine ⟨_, _, rfl, Ql46.GROUP, 6, rfl, rfl, by decide, fun H3 l3 s3 f3 e3 => ?_⟩
  have e2 : H3 l2 = some (.lst (bts ([0x42, 0x42, 0x03] ++ m))) := s3 _ _ upd_same
  refine ⟨_, rfl, _, _, rfl, id, 6, rfl, rfl, by decide, fun H4 l4 s4 f4 e4 => ?_⟩
  refine ⟨l3, l4, _, _, rfl, rfl, s4 _ _ e3, e4, by rw [bts_len, bts_len, be_len, be_len]; decide, fun l5 f5 => ?_⟩
  refine ⟨_, rfl, l2, _, rfl, .inl (SqL.of (Same.new f5 _ _ (s4 _ _ e2))), _, _, rfl, 3 + m.length, 2, ?_, rfl, by decide, fun H6 l6 s6 f6 e6 => ?_⟩
  · rw [bts_len, List.length_append]; rfl
  refine ⟨l5, l6, _, _, rfl, rfl, s6 _ _ upd_same, e6, by simp only [List.length_append, bts_len, be_len]; decide, fun l7 f7 => ?_⟩
  refine ⟨_, rfl, l7, l2, _, _, rfl, rfl, upd_same, Same.new f7 _ _ (s6 _ _ (Same.new f5 _ _ (s4 _ _ e2))), ?_, fun l8 f8 => ?_⟩
  · simp only [List.length_append, bts_len, be_len]
    exact szl (by show _ + (3 + _) ≤ _; omega)
  · have sB := (((((Same.new f1).new2 f2).trans s3).trans s4).new2 f5).trans s6
    refine k _ l8 ((sB.new2 f7).new2 f8) ((sB.new2 f7).free f8) (upd_same.trans ?_)
    unfold frm
    simp only [bts_append, List.append_assoc]
def sp_changed_frame (K : PySem.W.Frag) (t : Adr) : Sp := sp1 fun x H Q => ∃ id : Nat, x = .int id ∧ NewL Q H (bts (frm id [0, 0, 0, 128]))
theorem ok_changed_frame (T : Txt K mg t) : FnOk P w K mg base CX0 3 t.f_changed_frame t.fd_changed_frame ["own_id"] (sp_changed_frame K t) := by
  refine T.F_changed_frame.okQ sc_changed_frame sp1_len (fun cdv A outer s H vs Q E hr h => ?_)
  obtain ⟨x0, rfl, h⟩ := h
  obtain ⟨id, rfl, k⟩ := h
  refine ⟨_, (qb_one (qs_ret (q_call (ok_message_frame (K := K) T) (hr.mono (by decide)) rfl T.m_message_frame T.F_message_frame.kp T.b_message_frame .nil pass0 (qac (qv 0) (qac (q_lst (qac q_int (qac q_int (qac q_int (qac q_int qa_nil))))) qa_nil))))), ?_⟩
  refine ⟨_, rfl, by decide, fun l1 f1 => ⟨_, _, rfl, id, l1, [0, 0, 0, 128], rfl, rfl, upd_same, by decide, fun H2 l2 s2 f2 e2 => ?_⟩⟩
  exact k H2 l2 ((Same.new f1).trans s2) ((Same.new f1).free f2) e2
def LeadAt (t : Adr) (H : Hp) (a : Addr) (r c b p : Nat) : Prop := ∃ dx, H a = some (.ins t.C_Leader dx (fl_Leader (.int r) (.int c) (.int b) (.int p)))
def TimesAt (t : Adr) (H : Hp) (a : Addr) (x y z : Nat) : Prop := ∃ dx, H a = some (.ins t.C_Times dx (fl_Times (.int x) (.int y) (.int z)))
structure SaidAt (t : Adr) (H : Hp) (a : Addr) (s : Ql46.Says) (lr tr : Addr) : Prop where
  at_ : ∃ dx, H a = some (.ins t.C_Said dx (fl_Said (.ref lr) (.int s.age) (.ref tr) (.bl s.change) (.bl s.known)))
  lead : LeadAt t H lr s.root s.cost s.bridge s.port
  times : TimesAt t H tr s.maxAge s.hello s.delay
theorem LeadAt.same {H H' : Hp} {a : Addr} {r c b p : Nat} (h : LeadAt t H a r c b p) (s : Same H H') : LeadAt t H' a r c b p := let ⟨d, e⟩ := h; ⟨d, s _ _ e⟩
theorem TimesAt.same {H H' : Hp} {a : Addr} {x y z : Nat} (h : TimesAt t H a x y z) (s : Same H H') : TimesAt t H' a x y z := let ⟨d, e⟩ := h; ⟨d, s _ _ e⟩
theorem _root_.L2.Same.put {H H1 : Hp} {a : Addr} {o : HO} (s : Same H H1) (f : H a = none) : Same H (upd H1 a o) := fun b u e => by rw [upd_ne (ne_of_none e f)]; exact s b u e
def sp_notes_byte (K : PySem.W.Frag) (t : Adr) : Sp := sp1 fun x H Q => ∃ a s lr tr, x = .ref a ∧ SaidAt t H a s lr tr ∧ Q (.int (Ql46.bit s.known 128 + Ql46.bit s.change 1 : Nat)) H
theorem ok_notes_byte (T : Txt K mg t) : FnOk P w K mg base CX0 1 t.f_notes_byte t.fd_notes_byte ["said"] (sp_notes_byte K t) := by
  refine T.F_notes_byte.okQ sc_notes_byte sp1_len (fun cdv A outer s H vs Q E hr h => ?_)
  obtain ⟨x0, rfl, h⟩ := h
  obtain ⟨a, m, lr, tr, rfl, ⟨⟨dx, ha⟩, _, _⟩, k⟩ := h
  refine ⟨_, (qb_cons (qs_set (i := 1) sc_notes_byte.nd rfl (Or.inl rfl) (q_ifx (qt_val (q_fld (K := K) rfl (qv 0) rfl)) (q_gi rfl T.c_CHANGE_KNOWN) q_int)) (qb_cons (qs_set (i := 2) sc_notes_byte.nd rfl (Or.inl rfl) (q_ifx (qt_val (q_fld (K := K) rfl (qv 0) rfl)) (q_gi rfl T.c_CHANGE_THERE) q_int)) (qb_one (qs_ret (q_op op_add (qv 1) (qv 2)))))), ?_⟩
  refine ⟨_, rfl, a, _, _, _, _, rfl, ha, T.l_Said, T.a_Said_known, g_Said_known, _, rfl, ?_⟩
  refine ifB (fun c1 => ?_) (fun c1 => ?_)
  · refine ⟨_, rfl, a, _, _, _, _, rfl, ha, T.l_Said, T.a_Said_change, g_Said_change, _, rfl, ?_⟩
    refine ifB (fun c2 => ?_) (fun c2 => ?_)
    · rw [c1, c2] at k
      exact ⟨_, rfl, _, rfl, _, _, rfl, rfl, k⟩
    · rw [c1, c2] at k
      exact ⟨_, rfl, _, rfl, _, _, rfl, rfl, k⟩
  · refine ⟨_, rfl, a, _, _, _, _, rfl, ha, T.l_Said, T.a_Said_change, g_Said_change, _, rfl, ?_⟩
    refine ifB (fun c2 => ?_) (fun c2 => ?_)
    · rw [c1, c2] at k
      exact ⟨_, rfl, _, rfl, _, _, rfl, rfl, k⟩
    · rw [c1, c2] at k
      exact ⟨_, rfl, _, rfl, _, _, rfl, rfl, k⟩
theorem r_ext {D : Ends} {σ : L2.St} {H H1 : Hp} {i : Nat} {lb : Addr} {acc : List Nat} {x n : Nat} {te : TE} (hi : σ[i]? = some (some (.ref lb))) (hb : H1 lb = some (.lst (bts acc))) (S : Same H H1) (f0 : H lb = none) (hz : acc.length + n ≤ 1000) (hn : n ≤ 100)
    (he : ∀ Q : VK, Q (.int x) H1 → te σ H1 Q) (k : ∀ H2, Same H H2 → H2 lb = some (.lst (bts (acc ++ Ql46.be n x))) → (∀ b o, H1 b = some o → b ≠ lb → H2 b = some o) → D.nx σ H2) :
    tDrop (tBM K "list" rExtend (tVar i) (tCons (tCall (sp_number_row K t) [] E0 (tCons te (tCons (tC (.int n)) tNil))) tNil)) D σ H1 := by
  refine ⟨_, hi, .inl ⟨rfl, _, SqL.of hb⟩, he _ ?_⟩
  refine ⟨_, _, rfl, x, n, rfl, rfl, hn, fun H2 l2 s2 f2 e2 => ?_⟩
  refine ⟨lb, l2, _, _, rfl, rfl, s2 _ _ hb, e2, ?_, ?_⟩
  · rw [bts_len, bts_len, be_len]; exact szl (by omega)
  · rw [← bts_append]
    exact k _ ((S.trans s2).put f0) upd_same fun b o e hb => by rw [upd_ne hb]; exact s2 b o e
def sp_said_frame (K : PySem.W.Frag) (t : Adr) : Sp := sp2 fun x y H Q => ∃ (id : Nat) (a : Addr) (s : Ql46.Says) (lr tr : Addr), x = .int id ∧ y = .ref a ∧ SaidAt t H a s lr tr ∧ NewL Q H (bts (frm id (Ql46.bytesOf s)))
theorem ok_said_frame (T : Txt K mg t) : FnOk P w K mg base CX0 3 t.f_said_frame t.fd_said_frame ["own_id", "said"] (sp_said_frame K t) := by
  refine T.F_said_frame.okQ sc_said_frame sp2_len (fun cdv A outer s H vs Q E hr h => ?_)
  obtain ⟨x0, x1, rfl, h⟩ := h
  obtain ⟨id, a, m, lr, tr, rfl, rfl, hs, k⟩ := h
  have hs' := hs
  obtain ⟨⟨dx, ha⟩, hl, ht⟩ := hs'
  refine ⟨_, (qb_cons (qs_set (i := 2) sc_said_frame.nd rfl (Or.inl rfl) (q_fld (K := K) rfl (qv 1) rfl)) (qb_cons (qs_set (i := 3) sc_said_frame.nd rfl (Or.inl rfl) (q_fld (K := K) rfl (qv 1) rfl)) (qb_cons (qs_set (i := 4) sc_said_frame.nd rfl (Or.inl rfl) (q_lst (qac q_int (qac q_int (qac q_int (qac q_int (qac (q_call (ok_notes_byte (K := K) T) (hr.mono (by decide)) rfl T.m_notes_byte T.F_notes_byte.kp T.b_notes_byte .nil pass0 (qac (qv 1) qa_nil)) qa_nil))))))) (qb_cons (qs_expr (q_bm (K := K) rfl PySem.F.plainAttrs_list PySem.F.slot_list_extend PySem.F.type_list_extend mt_extend (qv 4) (qac (q_call (ok_number_row (K := K) T) (hr.mono (by decide)) rfl T.m_number_row T.F_number_row.kp T.b_number_row .nil pass0 (qac (q_fld (K := K) rfl (qv 2) rfl) (qac q_int qa_nil))) qa_nil))) (qb_cons (qs_expr (q_bm (K := K) rfl PySem.F.plainAttrs_list PySem.F.slot_list_extend PySem.F.type_list_extend mt_extend (qv 4) (qac (q_call (ok_number_row (K := K) T) (hr.mono (by decide)) rfl T.m_number_row T.F_number_row.kp T.b_number_row .nil pass0 (qac (q_fld (K := K) rfl (qv 2) rfl) (qac q_int qa_nil))) qa_nil))) (qb_cons (qs_expr (q_bm (K := K) rfl PySem.F.plainAttrs_list PySem.F.slot_list_extend PySem.F.type_list_extend mt_extend (qv 4) (qac (q_call (ok_number_row (K := K) T) (hr.mono (by decide)) rfl T.m_number_row T.F_number_row.kp T.b_number_row .nil pass0 (qac (q_fld (K := K) rfl (qv 2) rfl) (qac q_int qa_nil))) qa_nil))) (qb_cons (qs_expr (q_bm (K := K) rfl PySem.F.plainAttrs_list PySem.F.slot_list_extend PySem.F.type_list_extend mt_extend (qv 4) (qac (q_call (ok_number_row (K := K) T) (hr.mono (by decide)) rfl T.m_number_row T.F_number_row.kp T.b_number_row .nil pass0 (qac (q_fld (K := K) rfl (qv 2) rfl) (qac q_int qa_nil))) qa_nil))) (qb_cons (qs_for PassesOwn.never rfl (qi_list (K := K) rfl (q_lst (qac (q_fld (K := K) rfl (qv 1) rfl) (qac (q_fld (K := K) rfl (qv 3) rfl) (qac (q_fld (K := K) rfl (qv 3) rfl) (qac (q_fld (K := K) rfl (qv 3) rfl) qa_nil)))))) (qg_name (i := 5) sc_said_frame.nd rfl (Or.inl rfl)) (qb_one (qs_expr (q_bm (K := K) rfl PySem.F.plainAttrs_list PySem.F.slot_list_extend PySem.F.type_list_extend mt_extend (qv 4) (qac (q_call (ok_number_row (K := K) T) (hr.mono (by decide)) rfl T.m_number_row T.F_number_row.kp T.b_number_row .nil pass0 (qac (q_op op_mul (qv 5) q_int) (qac q_int qa_nil))) qa_nil))))) (qb_one (qs_ret (q_call (ok_message_frame (K := K) T) (hr.mono (by decide)) rfl T.m_message_frame T.F_message_frame.kp T.b_message_frame .nil pass0 (qac (qv 0) (qac (qv 4) qa_nil))))))))))))), ?_⟩
  refine ⟨_, rfl, a, _, _, _, _, rfl, ha, T.l_Said, T.a_Said_leader, g_Said_leader, ?_⟩
  refine ⟨_, rfl, a, _, _, _, _, rfl, ha, T.l_Said, T.a_Said_times, g_Said_times, ?_⟩
  refine ⟨_, rfl, _, rfl, a, m, lr, tr, rfl, hs, sz, fun lb f0 => ?_⟩
  refine r_ext (H := H) (lb := lb) (acc := [0, 0, 0, 0, Ql46.bit m.known 128 + Ql46.bit m.change 1]) (x := m.root) (n := 8) rfl upd_same (Same.new f0) f0 (by simp [be_len]) (by decide) ?_ fun H1 s1 e1 _ => ?_
  · exact fun Q' q => ⟨_, rfl, lr, _, _, _, _, rfl, Same.new f0 _ _ hl.choose_spec, T.l_Leader, T.a_Leader_root, g_Leader_root, q⟩
  refine r_ext (x := m.cost) (n := 4) rfl e1 s1 f0 (by simp [be_len]) (by decide) (fun Q' q => ⟨_, rfl, lr, _, _, _, _, rfl, s1 _ _ hl.choose_spec, T.l_Leader, T.a_Leader_cost, g_Leader_cost, q⟩) fun H2 s2 e2 _ => ?_
  refine r_ext (x := m.bridge) (n := 8) rfl e2 s2 f0 (by simp [be_len]) (by decide) (fun Q' q => ⟨_, rfl, lr, _, _, _, _, rfl, s2 _ _ hl.choose_spec, T.l_Leader, T.a_Leader_bridge, g_Leader_bridge, q⟩) fun H3 s3 e3 _ => ?_
  refine r_ext (x := m.port) (n := 2) rfl e3 s3 f0 (by simp [be_len]) (by decide) (fun Q' q => ⟨_, rfl, lr, _, _, _, _, rfl, s3 _ _ hl.choose_spec, T.l_Leader, T.a_Leader_port, g_Leader_port, q⟩) fun H4 s4 e4 _ => ?_
  refine ⟨_, rfl, a, _, _, _, _, rfl, s4 _ _ ha, T.l_Said, T.a_Said_age, g_Said_age, _, rfl, tr, _, _, _, _, rfl, s4 _ _ ht.choose_spec, T.l_Times, T.a_Times_oldest, g_Times_oldest, _, rfl, tr, _, _, _, _, rfl, s4 _ _ ht.choose_spec, T.l_Times, T.a_Times_between, g_Times_between,
    _, rfl, tr, _, _, _, _, rfl, s4 _ _ ht.choose_spec, T.l_Times, T.a_Times_wait, g_Times_wait, sz, fun l5 f5 => ⟨l5, rfl, ⟨_, SqL.of upd_same⟩, ?_⟩⟩
  refine for_list (K := K) (a := l5) (xs := bts [m.age, m.maxAge, m.hello, m.delay]) (fun i σ H' => Same H H' ∧ H' l5 = some (.lst (bts [m.age, m.maxAge, m.hello, m.delay])) ∧
      H' lb = some (.lst (bts ([0, 0, 0, 0, Ql46.bit m.known 128 + Ql46.bit m.change 1] ++ Ql46.be 8 m.root ++ Ql46.be 4 m.cost ++ Ql46.be 8 m.bridge ++ Ql46.be 2 m.port ++ ([m.age, m.maxAge, m.hello, m.delay].take i).flatMap fun x => Ql46.be 2 (256 * x)))) ∧
      ∃ v, σ = [some (.int id), some (.ref a), some (.ref lr), some (.ref tr), some (.ref lb), v]) ?_ (fun i σ H' _ ⟨_, e, _⟩ => SqL.of e) ?_ ?_
  · refine ⟨s4.new2 f5, upd_same, ?_, _, rfl⟩
    rw [List.take_zero, List.flatMap_nil, List.append_nil]
    exact Same.new f5 _ _ e4
  · rintro i y σ H' hi ⟨s6, h5, hb, v, rfl⟩
    obtain ⟨b, hb', rfl⟩ := bts_get hi
    have hlt : i < 4 := (List.getElem?_eq_some_iff.mp hb').1
    have f6 : H l5 = none := s4.free f5
    refine r_ext (x := 256 * b) (n := 2) rfl hb s6 f0 ?_ (by decide) (fun Q' q => ⟨_, rfl, _, _, rfl, rfl, .inr ⟨by decide, by decide⟩, ?_⟩) fun H7 s7 e7 k7 => ?_
    · simp only [List.length_append, be_len, List.length_cons, List.length_nil]
      have : (([m.age, m.maxAge, m.hello, m.delay].take i).flatMap fun x => Ql46.be 2 (256 * x)).length ≤ 8 := by
        match i, hlt with
        | 0, _ => simp
        | 1, _ => simp [be_len]
        | 2, _ => simp [be_len]
        | 3, _ => simp [be_len]
      omega
    · dsimp only
      rw [show (b : Int) * 256 = ((256 * b : Nat) : Int) by omega]
      exact q
    · refine ⟨s7, k7 _ _ h5 (ne_of_none e4 f5).symm, ?_, _, rfl⟩
      rw [e7, take_snoc hb', List.flatMap_append, List.append_assoc]
      simp only [List.flatMap_cons, List.flatMap_nil, List.append_nil]
  · rintro σ H' ⟨s6, h5, hb, v, rfl⟩
    refine ⟨_, rfl, _, rfl, _, _, rfl, id, lb, Ql46.bytesOf m, rfl, rfl, ?_, ?_, fun H7 l7 s7 f7 e7 => ?_⟩
    · rw [hb]
      unfold Ql46.bytesOf
      rw [bts_len, List.take_of_length_le (by simp)]
      simp only [List.flatMap_cons, List.flatMap_nil, List.append_assoc, List.append_nil]
    · unfold Ql46.bytesOf
      simp only [List.length_append, be_len, List.length_cons, List.length_nil]
      decide
    · exact k H7 l7 (s6.trans s7) (s6.free f7) e7
end
end Tb
local macro_rules | `(tactic| walk_at "ift") => `(tactic| (dsimp only; rw [if_pos rfl]))
local macro_rules | `(tactic| walk_at "iff") => `(tactic| (dsimp only; rw [if_neg Bool.false_ne_true]))
namespace Tb
open PySem PySem.Spec PyProof.Rows L2
theorem cut_two (xs : List V) (i j : Nat) : cutV xs (some (i : Int)) (some (j : Int)) = (xs.drop i).take (j - i) := by
  unfold cutV
  rw [HT.sIx_nat, HT.sIx_nat]
  by_cases hi : i ≤ xs.length
  · rw [Nat.min_eq_left hi]
    by_cases hj : j ≤ xs.length
    · rw [Nat.min_eq_left hj]
    · rw [Nat.min_eq_right (by omega), List.take_of_length_le (by rw [List.length_drop]; omega), List.take_of_length_le (by rw [List.length_drop]; omega)]
  · have e : min i xs.length = xs.length := by omega
    rw [e, List.drop_eq_nil_of_le (Nat.le_refl _), List.drop_eq_nil_of_le (by omega), List.take_nil, List.take_nil]
theorem cut_from (xs : List V) (i : Nat) : cutV xs (some (i : Int)) none = xs.drop i := by
  unfold cutV
  rw [HT.sIx_nat, HT.sIx_none]
  by_cases hi : i ≤ xs.length
  · rw [Nat.min_eq_left hi, List.take_of_length_le (by rw [List.length_drop]; omega)]
  · rw [Nat.min_eq_right (by omega), List.drop_eq_nil_of_le (Nat.le_refl _), List.drop_eq_nil_of_le (by omega), List.take_nil]
theorem bts_drop (l : List Nat) (i : Nat) : (bts l).drop i = bts (l.drop i) := by unfold bts; rw [List.map_drop]
theorem bts_take (l : List Nat) (i : Nat) : (bts l).take i = bts (l.take i) := by unfold bts; rw [List.map_take]
theorem cut_bts (l : List Nat) (i j : Nat) : cutV (bts l) (some (i : Int)) (some (j : Int)) = bts ((l.drop i).take (j - i)) := by rw [cut_two, bts_drop, bts_take]
theorem cut_lit (l : List Nat) {i j : Int} (hi : 0 ≤ i) (hj : 0 ≤ j) : cutV (bts l) (some i) (some j) = bts ((l.drop i.toNat).take (j.toNat - i.toNat)) := by
  have e1 : i = (i.toNat : Int) := by omega
  have e2 : j = (j.toNat : Int) := by omega
  rw [e1, e2, cut_bts, Int.toNat_natCast, Int.toNat_natCast]
def dts (l : List Nat) : List PyData := l.map fun (n : Nat) => PyData.int (n : Int)
theorem dts_can : ∀ l : List Nat, PyData.canLayAll0 (dts l) = true
  | [] => rfl
  | n :: r => by
    show (PyData.canLay0 (.int n) && PyData.canLayAll0 (dts r)) = true
    rw [dts_can r]; simp [PyData.canLay0]
theorem dts_depth : ∀ l : List Nat, PyData.depthAll (dts l) ≤ 1
  | [] => by simp [dts, PyData.depthAll]
  | n :: r => by
    show PyData.depthAll (.int n :: dts r) ≤ 1
    have := dts_depth r
    simp only [PyData.depthAll, PyData.depth]
    omega
theorem dts_shaped (l : List Nat) : SeqAt.shaped (.list (dts l)) = true := by
  unfold SeqAt.shaped
  have := dts_depth l
  simp [PyData.canLay0, PyData.depth, dts_can]
  omega
theorem dts_eqv : ∀ l m : List Nat, PyData.eqvAll (dts l) (dts m) = decide (l = m)
  | [], [] => by simp [dts, PyData.eqvAll]
  | [], _ :: _ => by simp [dts, PyData.eqvAll]
  | _ :: _, [] => by simp [dts, PyData.eqvAll]
  | n :: l, k :: m => by
    show PyData.eqvAll (.int n :: dts l) (.int k :: dts m) = _
    simp only [PyData.eqvAll, PyData.eqv, dts_eqv l m]
    by_cases e : n = k
    · subst e; simp
    · have : ((n : Int) == (k : Int)) = false := by simp; omega
      rw [this]; simp [e]
theorem dp_bts {K : PySem.W.Frag} {H : Hp} : ∀ l : List Nat, DpAll K H (bts l) (dts l)
  | [] => .nil
  | n :: r => .cons (.int n) (dp_bts r)
theorem eq_bts {K : PySem.W.Frag} {H : Hp} {a b : Addr} {l m : List Nat} {Q : VK} (ha : SqL K H a (bts l)) (hb : SqL K H b (bts m)) (q : Q (.bl (decide (l = m))) H) : rEqD K (.ref a) (.ref b) H Q := by
  refine ⟨.list (dts l), .list (dts m), .lst ha (dp_bts l), .lst hb (dp_bts m), dts_shaped l, dts_shaped m, ?_⟩
  have e : PyData.eqv (.list (dts l)) (.list (dts m)) = decide (l = m) := by simp only [PyData.eqv, dts_eqv]
  rw [e]; exact q
theorem ne_bts {K : PySem.W.Frag} {H : Hp} {a b : Addr} {l m : List Nat} {Q : VK} (ha : SqL K H a (bts l)) (hb : SqL K H b (bts m)) (q : Q (.bl (!decide (l = m))) H) : rNeD K (.ref a) (.ref b) H Q := by
  refine ⟨.list (dts l), .list (dts m), .lst ha (dp_bts l), .lst hb (dp_bts m), dts_shaped l, dts_shaped m, ?_⟩
  have e : PyData.eqv (.list (dts l)) (.list (dts m)) = decide (l = m) := by simp only [PyData.eqv, dts_eqv]
  rw [e]; exact q
section
variable {P : Program} {w : World} {K : PySem.W.Frag} {mg : Str → Option Value} {base : Heap} {t : Adr}
def sp_is_changed (K : PySem.W.Frag) (t : Adr) : Sp := sp1 fun x H Q => ∃ a l, x = .ref a ∧ SqL K H a (bts l) ∧ ∀ H', Same H H' → Q (.bl (decide (l.take 4 = [0, 0, 0, 128]))) H'
theorem ok_is_changed (T : Txt K mg t) : FnOk P w K mg base CX0 1 t.f_is_changed t.fd_is_changed ["body"] (sp_is_changed K t) := by
  refine T.F_is_changed.okQ sc_is_changed sp1_len (fun cdv A outer s H vs Q E hr h => ?_)
  obtain ⟨x0, rfl, h⟩ := h
  obtain ⟨a, l, rfl, ha, k⟩ := h
  refine ⟨_, (qb_one (qs_ret (q_cmp (k_eqD (K := K) rfl hr.units) (q_slice (k_sl (K := K) rfl) (qv 0) (qo_some q_int) (qo_some q_int)) (q_lst (qac q_int (qac q_int (qac q_int (qac q_int qa_nil))))) (nomark _)))), ?_⟩
  refine ⟨_, rfl, _, rfl, _, rfl, a, _, rfl, ha, fun l1 f1 => ⟨by decide, fun l2 f2 => ?_⟩⟩
  refine eq_bts (l := l.take 4) (m := [0, 0, 0, 128]) (SqL.of ?_) (SqL.of upd_same) ?_
  · refine Same.new f2 _ _ ?_
    rw [cut_lit l (i := 0) (j := 4) (by decide) (by decide)]; exact upd_same
  · exact k _ ((Same.new f1).new2 f2)
def bodyOf (f : List Nat) : List Nat :=
  if Ql46.field f 12 2 < 3 ∨ f.length < 14 + Ql46.field f 12 2 ∨ (f.drop 14).take 3 ≠ [0x42, 0x42, 0x03] then [] else (f.drop 17).take (Ql46.field f 12 2 - 3)
def sp_message_body (K : PySem.W.Frag) (t : Adr) : Sp := sp1 fun x H Q => ∃ a f, x = .ref a ∧ SqL K H a (bts f) ∧ f.length ≤ 10000 ∧ NewL Q H (bts (bodyOf f))
theorem ok_message_body (T : Txt K mg t) : FnOk P w K mg base CX0 2 t.f_message_body t.fd_message_body ["frame"] (sp_message_body K t) := by
  refine T.F_message_body.okQ sc_message_body sp1_len (fun cdv A outer s H vs Q E hr h => ?_)
  obtain ⟨x0, rfl, h⟩ := h
  obtain ⟨a, f, rfl, ha, hl, k⟩ := h
  refine ⟨_, (qb_cons (qs_set (i := 1) sc_message_body.nd rfl (Or.inl rfl) (q_call (ok_row_number (K := K) T) (hr.mono (by decide)) rfl T.m_row_number T.F_row_number.kp T.b_row_number .nil pass0 (qac (q_slice (k_sl (K := K) rfl) (qv 0) (qo_some q_int) (qo_some q_int)) qa_nil))) (qb_cons (qs_if (QW.pt (qw_or (qt_cmp op_lt (qv 1) q_int (nomark _)) (qw_or (qt_cmp op_gt (qv 1) (q_op op_sub (q_callB (k_len (K := K) rfl) rfl T.n_len PySem.boot_len (qac (qv 0) qa_nil)) q_int) (nomark _)) (qw_or1 (qt_cmp (k_neD (K := K) rfl hr.units) (q_slice (k_sl (K := K) rfl) (qv 0) (qo_some q_int) (qo_some q_int)) (q_lst (qac q_int (qac q_int (qac q_int qa_nil)))) (nomark _)))))) (qb_one (qs_ret (q_lst qa_nil))) qb_nil) (qb_one (qs_ret (q_slice (k_sl (K := K) rfl) (qv 0) (qo_some q_int) (qo_some (q_op op_add q_int (qv 1)))))))), ?_⟩
  refine ⟨_, rfl, _, rfl, _, rfl, a, _, rfl, ha, fun l1 f1 => ?_⟩
  refine ⟨_, rfl, l1, (f.drop 12).take 2, rfl, SqL.of (by rw [cut_lit f (i := 12) (j := 14) (by decide) (by decide)]; exact upd_same), ?_⟩
  have ha1 := (Same.new (o := .lst (cutV (bts f) (some 12) (some 14))) f1).seq ha
  refine ⟨_, rfl, _, _, rfl, rfl, _, rfl, ?_⟩
  have e12 : Ql46.num ((f.drop 12).take 2) = Ql46.field f 12 2 := rfl
  rw [e12]
  have hnil : (Ql46.field f 12 2 < 3 ∨ f.length < 14 + Ql46.field f 12 2 ∨ (f.drop 14).take 3 ≠ [0x42, 0x42, 0x03]) → bodyOf f = [] := fun c => by unfold bodyOf; rw [if_pos c]
  refine ifD (fun c1 => ?_) (fun c1 => ?_)
  · walk_at "ift"
    refine ⟨sz, fun l2 f2 => ?_⟩
    rw [hnil (.inl (by omega))] at k
    exact k _ l2 ((Same.new f1).new2 f2) ((Same.new f1).free f2) upd_same
  refine ⟨_, rfl, _, rfl, a, _, rfl, .inl ha1, _, _, rfl, rfl, _, _, rfl, rfl, _, rfl, ?_⟩
  rw [bts_len]
  refine ifD (fun c2 => ?_) (fun c2 => ?_)
  · walk_at "ift"
    refine ⟨sz, fun l2 f2 => ?_⟩
    rw [hnil (.inr (.inl (by omega)))] at k
    exact k _ l2 ((Same.new f1).new2 f2) ((Same.new f1).free f2) upd_same
  refine ⟨_, rfl, _, rfl, _, rfl, a, _, rfl, ha1, fun l2 f2 => ⟨sz, fun l3 f3 => ?_⟩⟩
  refine ne_bts (l := (f.drop 14).take 3) (m := [0x42, 0x42, 0x03]) (SqL.of ?_) (SqL.of upd_same) ⟨_, rfl, ?_⟩
  · refine Same.new f3 _ _ ?_
    rw [cut_lit f (i := 14) (j := 17) (by decide) (by decide)]; exact upd_same
  have s3 := ((Same.new f1).new2 f2).new2 (o := .lst [.int 66, .int 66, .int 3]) f3
  have ha3 := s3.seq ha
  refine ifND (fun c3 => ?_) (fun c3 => ?_)
  · refine ⟨sz, fun l4 f4 => ?_⟩
    rw [hnil (.inr (.inr c3))] at k
    exact k _ l4 (s3.new2 f4) (s3.free f4) upd_same
  refine ⟨_, rfl, _, rfl, _, rfl, _, _, rfl, rfl, _, rfl, a, _, rfl, ha3, fun l4 f4 => ?_⟩
  refine k _ l4 (s3.new2 f4) (s3.free f4) ?_
  have e5 : bodyOf f = (f.drop 17).take (Ql46.field f 12 2 - 3) := by
    unfold bodyOf
    rw [if_neg]
    rintro (h | h | h)
    · omega
    · omega
    · exact h c3
  rw [e5, cut_lit f (i := 17) (j := 14 + (Ql46.field f 12 2 : Nat)) (by decide) (by omega)]
  have e6 : ((14 : Int) + (Ql46.field f 12 2 : Nat)).toNat - (17 : Int).toNat = Ql46.field f 12 2 - 3 := by omega
  rw [e6]
  exact upd_same
end
end Tb
local macro_rules | `(tactic| walk_at "ift") => `(tactic| (dsimp only; rw [if_pos rfl]))
local macro_rules | `(tactic| walk_at "iff") => `(tactic| (dsimp only; rw [if_neg Bool.false_ne_true]))
namespace Tb
open PySem PySem.Spec PyProof.Rows L2
theorem bit_and (x k : Nat) : Builtin.bitAnd (x : Int) (k : Int) = ((x &&& k : Nat) : Int) := by
  unfold Builtin.bitAnd
  have h1 : decide (0 ≤ (x : Int)) = true := decide_eq_true (Int.natCast_nonneg x)
  have h2 : decide (0 ≤ (k : Int)) = true := decide_eq_true (Int.natCast_nonneg k)
  rw [h1, h2]
  show (((x : Int).toNat &&& (k : Int).toNat : Nat) : Int) = _
  rw [Int.toNat_natCast, Int.toNat_natCast]
theorem bit_zero (x i : Nat) : decide (Builtin.bitAnd (x : Int) ((2 ^ i : Nat) : Int) = 0) = !decide (x / 2 ^ i % 2 = 1) := by
  rw [bit_and]
  have ht := Nat.testBit_eq_decide_div_mod_eq (x := x) (i := i)
  by_cases h : x / 2 ^ i % 2 = 1
  · rw [decide_eq_true h] at ht ⊢
    refine decide_eq_false fun e => ?_
    have e0 : x &&& 2 ^ i = 0 := by omega
    have q : (x &&& 2 ^ i).testBit i = true := by rw [Nat.testBit_and, ht, Nat.testBit_two_pow_self]; rfl
    rw [e0] at q
    simp at q
  · rw [decide_eq_false h] at ht ⊢
    refine decide_eq_true ?_
    have e0 : x &&& 2 ^ i = 0 := by
      refine Nat.eq_of_testBit_eq fun j => ?_
      rw [Nat.testBit_and, Nat.testBit_two_pow]
      by_cases hj : i = j
      · subst hj; rw [ht]; simp
      · simp [hj]
    rw [e0]; rfl
theorem bitB (x i : Nat) : (!decide (V.int (Builtin.bitAnd (x : Int) ((2 ^ i : Nat) : Int)) = V.int 0)) = (x / 2 ^ i % 2 == 1) := by
  have e : decide (V.int (Builtin.bitAnd (x : Int) ((2 ^ i : Nat) : Int)) = V.int 0) = decide (Builtin.bitAnd (x : Int) ((2 ^ i : Nat) : Int) = 0) := by
    by_cases h : Builtin.bitAnd (x : Int) ((2 ^ i : Nat) : Int) = 0
    · rw [decide_eq_true h, h]; rfl
    · rw [decide_eq_false h]; exact decide_eq_false fun z => h (V.int.inj z)
  rw [e, bit_zero, Bool.not_not]
  by_cases h : x / 2 ^ i % 2 = 1
  · rw [decide_eq_true h, h]; rfl
  · rw [decide_eq_false h]; exact (beq_eq_false_iff_ne.mpr h).symm
theorem atI_bts {l : List Nat} {i : Int} {j : Nat} (e : i = (j : Int)) (h : j < l.length) : atI (bts l) i = some (.int ((l.getD j 0 : Nat) : Int)) := by
  refine at_of e ?_
  unfold bts
  rw [List.getElem?_map, List.getElem?_eq_getElem h, List.getD_eq_getElem?_getD, List.getElem?_eq_getElem h]
  rfl
theorem made_same {H : Hp} {x dx : Addr} {o1 o2 o3 : HO} (n1 : H x = none) (n2 : H dx = none) : Same H (upd (upd (upd H dx o1) x o2) x o3) := ((Same.new n2).put n1).put n1
section
variable {P : Program} {w : World} {K : PySem.W.Frag} {mg : Str → Option Value} {base : Heap} {t : Adr}
theorem r_sec {σ : L2.St} {H : Hp} {Q : VK} {a : Addr} {m : List Nat} {s i n j : Nat} (hj : j = i + n) (hs : σ[s]? = some (some (.ref a))) (ha : SqL K H a (bts m)) (k : ∀ H', Same H H' → Q (.int (Ql46.field m i n / 256 : Nat)) H') :
    tCall (sp_row_seconds K t) [] E0 (tCons (tSl (rSlL K) (tVar s) (tPart (tC (.int (i : Nat)))) (tPart (tC (.int (j : Nat))))) tNil) σ H Q := by
  refine ⟨_, hs, _, rfl, _, rfl, a, _, rfl, ha, fun l1 f1 => ⟨_, rfl, l1, (m.drop i).take n, rfl, SqL.of ?_, k _ (Same.new f1)⟩⟩
  rw [cut_bts, hj, Nat.add_sub_cancel_left]; exact upd_same
theorem r_num {σ : L2.St} {H : Hp} {Q : VK} {a : Addr} {m : List Nat} {s i n j : Nat} (hj : j = i + n) (hs : σ[s]? = some (some (.ref a))) (ha : SqL K H a (bts m)) (k : ∀ H', Same H H' → Q (.int (Ql46.field m i n : Nat)) H') :
    tCall (sp_row_number K t) [] E0 (tCons (tSl (rSlL K) (tVar s) (tPart (tC (.int (i : Nat)))) (tPart (tC (.int (j : Nat))))) tNil) σ H Q := by
  refine ⟨_, hs, _, rfl, _, rfl, a, _, rfl, ha, fun l1 f1 => ⟨_, rfl, l1, (m.drop i).take n, rfl, SqL.of ?_, k _ (Same.new f1)⟩⟩
  rw [cut_bts, hj, Nat.add_sub_cancel_left]; exact upd_same
def sp_read_said (K : PySem.W.Frag) (t : Adr) : Sp := sp1 fun x H Q => ∃ a m, x = .ref a ∧ SqL K H a (bts m) ∧ m.length ≤ 10000 ∧
  (∀ s, Ql46.read m = .says s → ∀ H' p lr tr, Same H H' → SaidAt t H' p s lr tr → Q (.ref p) H') ∧ ((∀ s, Ql46.read m ≠ .says s) → ∀ H', Same H H' → Q .non H')
theorem ok_read_said (T : Txt K mg t) : FnOk P w K mg base CX0 3 t.f_read_said t.fd_read_said ["body"] (sp_read_said K t) := by
  refine T.F_read_said.okQ sc_read_said sp1_len (fun cdv A outer s H vs Q E hr h => ?_)
  obtain ⟨x0, rfl, h⟩ := h
  obtain ⟨a, m, rfl, ha, hl, k1, k2⟩ := h
  refine ⟨_, (qb_cons (qs_if (QW.pt (qw_or (qt_cmp op_lt (q_callB (k_len (K := K) rfl) rfl T.n_len PySem.boot_len (qac (qv 0) qa_nil)) (q_gi rfl T.c_SAID_LENGTH) (nomark _)) (qw_or1 (qt_cmp (k_neD (K := K) rfl hr.units) (q_slice (k_sl (K := K) rfl) (qv 0) (qo_some q_int) (qo_some q_int)) (q_lst (qac q_int (qac q_int (qac q_int (qac q_int qa_nil))))) (nomark _))))) (qb_one (qs_ret q_non)) qb_nil) (qb_cons (qs_set (i := 1) sc_read_said.nd rfl (Or.inl rfl) (q_make T.K_Times (ok_Times_init (K := K) T) (hr.mono (by decide)) rfl T.m_Times T.b_Times_init .nil pass0 (qac (q_call (ok_row_seconds (K := K) T) (hr.mono (by decide)) rfl T.m_row_seconds T.F_row_seconds.kp T.b_row_seconds .nil pass0 (qac (q_slice (k_sl (K := K) rfl) (qv 0) (qo_some q_int) (qo_some q_int)) qa_nil)) (qac (q_call (ok_row_seconds (K := K) T) (hr.mono (by decide)) rfl T.m_row_seconds T.F_row_seconds.kp T.b_row_seconds .nil pass0 (qac (q_slice (k_sl (K := K) rfl) (qv 0) (qo_some q_int) (qo_some q_int)) qa_nil)) (qac (q_call (ok_row_seconds (K := K) T) (hr.mono (by decide)) rfl T.m_row_seconds T.F_row_seconds.kp T.b_row_seconds .nil pass0 (qac (q_slice (k_sl (K := K) rfl) (qv 0) (qo_some q_int) (qo_some q_int)) qa_nil)) qa_nil))))) (qb_cons (qs_set (i := 2) sc_read_said.nd rfl (Or.inl rfl) (q_call (ok_row_seconds (K := K) T) (hr.mono (by decide)) rfl T.m_row_seconds T.F_row_seconds.kp T.b_row_seconds .nil pass0 (qac (q_slice (k_sl (K := K) rfl) (qv 0) (qo_some q_int) (qo_some q_int)) qa_nil))) (qb_cons (qs_if (qt_cmp op_ge (qv 2) (q_fld (K := K) rfl (qv 1) rfl) (nomark _)) (qb_one (qs_ret q_non)) qb_nil) (qb_cons (qs_set (i := 3) sc_read_said.nd rfl (Or.inl rfl) (q_make T.K_Leader (ok_Leader_init (K := K) T) (hr.mono (by decide)) rfl T.m_Leader T.b_Leader_init .nil pass0 (qac (q_call (ok_row_number (K := K) T) (hr.mono (by decide)) rfl T.m_row_number T.F_row_number.kp T.b_row_number .nil pass0 (qac (q_slice (k_sl (K := K) rfl) (qv 0) (qo_some q_int) (qo_some q_int)) qa_nil)) (qac (q_call (ok_row_number (K := K) T) (hr.mono (by decide)) rfl T.m_row_number T.F_row_number.kp T.b_row_number .nil pass0 (qac (q_slice (k_sl (K := K) rfl) (qv 0) (qo_some q_int) (qo_some q_int)) qa_nil)) (qac (q_call (ok_row_number (K := K) T) (hr.mono (by decide)) rfl T.m_row_number T.F_row_number.kp T.b_row_number .nil pass0 (qac (q_slice (k_sl (K := K) rfl) (qv 0) (qo_some q_int) (qo_some q_int)) qa_nil)) (qac (q_call (ok_row_number (K := K) T) (hr.mono (by decide)) rfl T.m_row_number T.F_row_number.kp T.b_row_number .nil pass0 (qac (q_slice (k_sl (K := K) rfl) (qv 0) (qo_some q_int) (qo_some q_int)) qa_nil)) qa_nil)))))) (qb_one (qs_ret (q_make T.K_Said (ok_Said_init (K := K) T) (hr.mono (by decide)) rfl T.m_Said T.b_Said_init .nil pass0 (qac (qv 3) (qac (qv 2) (qac (qv 1) (qac (q_cmp op_ne (q_op op_and (q_ix (k_ixl (K := K) rfl) (qv 0) q_int (fun _ _ => rfl)) (q_gi rfl T.c_CHANGE_THERE)) q_int (nomark _)) (qac (q_cmp op_ne (q_op op_and (q_ix (k_ixl (K := K) rfl) (qv 0) q_int (fun _ _ => rfl)) (q_gi rfl T.c_CHANGE_KNOWN)) q_int (nomark _)) qa_nil))))))))))))), ?_⟩
  refine ⟨_, rfl, a, _, rfl, .inl ha, _, _, rfl, rfl, _, rfl, ?_⟩
  rw [bts_len]
  refine ifD (fun c1 => ?_) (fun c1 => ?_)
  · walk_at "ift"
    refine k2 (fun s e => ?_) H (Same.refl H)
    unfold Ql46.read at e
    rw [if_neg (by intro z; omega)] at e
    split at e <;> cases e
  refine ⟨_, rfl, _, rfl, _, rfl, a, _, rfl, ha, fun l1 f1 => ⟨sz, fun l2 f2 => ?_⟩⟩
  refine ne_bts (l := m.take 4) (m := [0, 0, 0, 0]) (SqL.of ?_) (SqL.of upd_same) ⟨_, rfl, ?_⟩
  · refine Same.new f2 _ _ ?_
    rw [cut_lit m (i := 0) (j := 4) (by decide) (by decide)]; exact upd_same
  have s2 := (Same.new f1).new2 (o := .lst [.int 0, .int 0, .int 0, .int 0]) f2
  refine ifND (fun c2 => ?_) (fun c2 => ?_)
  · refine k2 (fun s e => ?_) _ s2
    unfold Ql46.read at e
    rw [if_neg (by intro z; exact c2 z.1)] at e
    split at e <;> cases e
  have er : Ql46.read m = (let s : Ql46.Says := ⟨Ql46.field m 5 8, Ql46.field m 13 4, Ql46.field m 17 8, Ql46.field m 25 2, Ql46.field m 27 2 / 256, Ql46.field m 29 2 / 256, Ql46.field m 31 2 / 256, Ql46.field m 33 2 / 256, m.getD 4 0 % 2 == 1, m.getD 4 0 / 128 % 2 == 1⟩
     if s.age < s.maxAge then .says s else .none_) := by
    unfold Ql46.read
    rw [if_pos ⟨c2, by omega⟩]
  refine r_sec (s := 0) (i := 29) (n := 2) (j := 31) rfl rfl (s2.seq ha) fun H3 s3 => ?_
  have t3 := s2.trans s3
  refine r_sec (s := 0) (i := 31) (n := 2) (j := 33) rfl rfl (t3.seq ha) fun H4 s4 => ?_
  have t4 := t3.trans s4
  refine r_sec (s := 0) (i := 33) (n := 2) (j := 35) rfl rfl (t4.seq ha) fun H5 s5 => ?_
  have t5 := t4.trans s5
  refine fun x dx n1 n2 ne => ⟨_, _, _, _, rfl, x, dx, rfl, upd_same, rfl, ?_⟩
  have t6 := t5.trans (made_same (o1 := .own x) (o2 := .ins t.C_Times dx []) (o3 := .ins t.C_Times dx (fl_Times (.int (Ql46.field m 29 2 / 256 : Nat)) (.int (Ql46.field m 31 2 / 256 : Nat)) (.int (Ql46.field m 33 2 / 256 : Nat)))) n1 n2)
  refine r_sec (s := 0) (i := 27) (n := 2) (j := 29) rfl rfl (t6.seq ha) fun H7 s7 => ?_
  have t7 := t6.trans s7
  have hx := s7 _ _ upd_same
  refine ⟨_, rfl, _, rfl, x, _, _, _, _, rfl, hx, T.l_Times, T.a_Times_oldest, g_Times_oldest, _, _, rfl, rfl, _, rfl, ?_⟩
  refine ifD (fun c3 => ?_) (fun c3 => ?_)
  · refine k2 (fun s e => ?_) _ t7
    rw [er] at e
    dsimp only at e
    rw [if_neg (by omega)] at e
    cases e
  refine r_num (s := 0) (i := 5) (n := 8) (j := 13) rfl rfl (t7.seq ha) fun H8 s8 => ?_
  have t8 := t7.trans s8
  refine r_num (s := 0) (i := 13) (n := 4) (j := 17) rfl rfl (t8.seq ha) fun H9 s9 => ?_
  have t9 := t8.trans s9
  refine r_num (s := 0) (i := 17) (n := 8) (j := 25) rfl rfl (t9.seq ha) fun H10 s10 => ?_
  have t10 := t9.trans s10
  refine r_num (s := 0) (i := 25) (n := 2) (j := 27) rfl rfl (t10.seq ha) fun H11 s11 => ?_
  have t11 := t10.trans s11
  refine fun y dy m1 m2 me => ⟨_, _, _, _, _, rfl, y, dy, rfl, upd_same, rfl, ?_⟩
  have t12 := t11.trans (made_same (o1 := .own y) (o2 := .ins t.C_Leader dy []) (o3 := .ins t.C_Leader dy (fl_Leader (.int (Ql46.field m 5 8 : Nat)) (.int (Ql46.field m 13 4 : Nat)) (.int (Ql46.field m 17 8 : Nat)) (.int (Ql46.field m 25 2 : Nat)))) m1 m2)
  have h4 := atI_bts (l := m) (i := 4) (j := 4) rfl (by omega)
  refine ⟨_, rfl, _, rfl, _, rfl, _, rfl, a, _, _, _, rfl, rfl, t12.seq ha, h4, _, _, rfl, rfl, rfl, _, rfl, a, _, _, _, rfl, rfl, t12.seq ha, h4, _, _, rfl, rfl, rfl, fun z dz p1 p2 pe => ⟨_, _, _, _, _, _, rfl, z, dz, rfl, upd_same, rfl, ?_⟩⟩
  have eb1 := bitB (m.getD 4 0) 0
  have eb2 := bitB (m.getD 4 0) 7
  rw [Nat.pow_zero, Nat.div_one] at eb1
  refine k1 ⟨Ql46.field m 5 8, Ql46.field m 13 4, Ql46.field m 17 8, Ql46.field m 25 2, Ql46.field m 27 2 / 256, Ql46.field m 29 2 / 256, Ql46.field m 31 2 / 256, Ql46.field m 33 2 / 256, m.getD 4 0 % 2 == 1, m.getD 4 0 / 128 % 2 == 1⟩ (er.trans ?_) _ z y x (t12.trans (made_same p1 p2)) ⟨⟨dz, upd_same.trans ?_⟩, ⟨dy, ?_⟩, ⟨dx, ?_⟩⟩
  · dsimp only
    rw [if_pos (by omega)]
  · exact congrArg some (congrArg (HO.ins t.C_Said dz) (by
      show fl_Said _ _ _ (.bl (!decide (V.int (Builtin.bitAnd ((m.getD 4 0 : Nat) : Int) ((1 : Nat) : Int)) = V.int 0))) (.bl (!decide (V.int (Builtin.bitAnd ((m.getD 4 0 : Nat) : Int) ((2 ^ 7 : Nat) : Int)) = V.int 0))) = _
      rw [eb1, eb2]))
  · exact made_same p1 p2 _ _ upd_same
  · exact made_same p1 p2 _ _ (made_same m1 m2 _ _ (s11 _ _ (s10 _ _ (s9 _ _ (s8 _ _ hx)))))
end
end Tb
namespace Tb
open PySem PySem.Spec PyProof.Rows L2
def shp : HO → Nat
  | .lst _ => 100
  | .tup _ => 101
  | .dK _ => 102
  | .ins _ _ fs => fs.length
  | _ => 103
theorem ne_shp {H : Hp} {a b : Addr} {o u : HO} (h1 : H a = some o) (h2 : H b = some u) (h : Nat.beq (shp o) (shp u) = false) : a ≠ b := by
  intro e
  subst e
  rw [h1] at h2
  rw [Option.some.inj h2, Nat.beq_refl] at h
  cases h
structure Lay where
  b : Addr
  pl : Addr
  ad : Addr
  hd : Addr
  sl : Addr
  ps : List Addr
def Mu (L : Lay) (a : Addr) : Prop := a = L.b ∨ a = L.ad ∨ a = L.hd ∨ a = L.sl ∨ a ∈ L.ps
def optV : Option Nat → V
  | none => .non
  | some n => .int (n : Int)
def poF (k : Nat) (q : Ql46.Port) (lr : Addr) (wc : Nat) : List (Str × V) :=
  fl_Port (.int (k : Nat)) (.int (32768 + k : Nat)) (.int (wc : Nat)) (.ref lr) (.int (q.state : Nat)) (optV q.age) (optV q.wait) (optV q.hold) (.bl q.pending) (.bl q.known)
def brF (L : Lay) (b : Ql46.Bridge) (tr : Addr) : List (Str × V) :=
  fl_Bridge (.int (b.id : Nat)) (.ref L.pl) (.int (b.root : Nat)) (.int (b.cost : Nat)) (.int (b.rootPort : Nat)) (.ref tr) (.bl b.found) (.bl b.change) (optV b.telling) (optV b.asking) (optV b.changing) (.ref L.ad) (.ref L.sl)
section
variable {t : Adr} {L : Lay} {H H' : Hp}
structure PortAt (t : Adr) (H : Hp) (a : Addr) (k : Nat) (q : Ql46.Port) (dx lr : Addr) (wc : Nat) : Prop where
  at_ : H a = some (.ins t.C_Port dx (poF k q lr wc))
  lead : LeadAt t H lr q.root q.cost q.bridge q.port
  way : q.state ≠ 0 → wc = q.pathCost
structure BrAt (t : Adr) (L : Lay) (H : Hp) (b : Ql46.Bridge) (dx tr : Addr) : Prop where
  at_ : H L.b = some (.ins t.C_Bridge dx (brF L b tr))
  times : TimesAt t H tr b.maxAge b.hello b.delay
def TabAt (H : Hp) (hd : Addr) (tab : List (Nat × Nat × Nat)) : Prop :=
  ∃ kvs : List (Key × V), H hd = some (.dK kvs) ∧ Paired (fun (x : Nat × Nat × Nat) (kv : Key × V) => kv.1 = Sum.inl (x.1 : Int) ∧ ∃ a, kv.2 = .ref a ∧ H a = some (.tup [.int (x.2.1 : Nat), .int (x.2.2 : Nat)])) tab.reverse kvs
def SentAt (H : Hp) (sl : Addr) (sent : Ql46.Sent) : Prop :=
  ∃ as : List Addr, H sl = some (.lst (as.map V.ref)) ∧ Paired (fun (x : Nat × List Nat) (a : Addr) => ∃ f, H a = some (.tup [.int (x.1 : Nat), .ref f]) ∧ H f = some (.lst (bts x.2)) ∧ f ≠ sl) sent as
structure Rep (t : Adr) (L : Lay) (H : Hp) (d : Ql46.Doing) : Prop where
  br : ∃ dx tr, BrAt t L H d.1 dx tr
  pl : H L.pl = some (.lst (L.ps.map V.ref))
  nd : L.ps.Nodup
  len : L.ps.length = d.1.ports.length
  po : ∀ i a, L.ps[i]? = some a → ∃ dx lr wc, PortAt t H a (i + 1) (d.1.port (i + 1)) dx lr wc
  ad : ∃ dx, H L.ad = some (.ins t.C_Addresses dx (fl_Addresses (.ref L.hd)))
  tab : TabAt H L.hd d.1.table
  sent : SentAt H L.sl d.2
  ne : L.pl ≠ L.sl
theorem paired_imp {α β : Type} {F G : α → β → Prop} : ∀ {l : List α} {m : List β}, Paired F l m → (∀ a b, F a b → G a b) → Paired G l m
  | _, _, .nil, _ => .nil
  | _, _, .cons r t, f => .cons (f _ _ r) (paired_imp t f)
theorem TabAt.keep {hd : Addr} {tab : List (Nat × Nat × Nat)} (h : TabAt H hd tab) (k1 : ∀ kvs, H hd = some (.dK kvs) → H' hd = some (.dK kvs)) (k : ∀ a xs, H a = some (.tup xs) → H' a = some (.tup xs)) : TabAt H' hd tab :=
  let ⟨kvs, e, p⟩ := h
  ⟨kvs, k1 kvs e, paired_imp p fun _ _ ⟨e1, a, e2, e3⟩ => ⟨e1, a, e2, k a _ e3⟩⟩
theorem SentAt.keep {sl : Addr} {sent : Ql46.Sent} (h : SentAt H sl sent) (k1 : ∀ xs, H sl = some (.lst xs) → H' sl = some (.lst xs)) (k : ∀ a xs, H a = some (.tup xs) → H' a = some (.tup xs)) (k2 : ∀ a xs, a ≠ sl → H a = some (.lst xs) → H' a = some (.lst xs)) : SentAt H' sl sent :=
  let ⟨as, e, p⟩ := h
  ⟨as, k1 _ e, paired_imp p fun _ _ ⟨f, e1, e2, e3⟩ => ⟨f, k _ _ e1, k2 _ _ e3 e2, e3⟩⟩
theorem Rep.same {d : Ql46.Doing} (R : Rep t L H d) (s : Same H H') : Rep t L H' d where
  br := let ⟨dx, tr, h⟩ := R.br; ⟨dx, tr, s _ _ h.at_, h.times.same s⟩
  pl := s _ _ R.pl
  nd := R.nd
  len := R.len
  po := fun i a e => let ⟨dx, lr, wc, h⟩ := R.po i a e; ⟨dx, lr, wc, s _ _ h.at_, h.lead.same s, h.way⟩
  ad := let ⟨dx, h⟩ := R.ad; ⟨dx, s _ _ h⟩
  tab := R.tab.keep (fun _ e => s _ _ e) (fun _ _ e => s _ _ e)
  sent := R.sent.keep (fun _ e => s _ _ e) (fun _ _ e => s _ _ e) (fun _ _ _ e => s _ _ e)
  ne := R.ne
theorem port_set {b : Ql46.Bridge} {i j : Nat} {q : Ql46.Port} (h : i < b.ports.length) : (b.set (i + 1) q).port (j + 1) = if j = i then q else b.port (j + 1) := by
  unfold Ql46.Bridge.set Ql46.Bridge.port
  dsimp only
  rw [Nat.add_sub_cancel, Nat.add_sub_cancel, List.getD_eq_getElem?_getD, List.getD_eq_getElem?_getD, List.getElem?_set]
  by_cases e : j = i
  · subst e
    rw [if_pos rfl, if_pos rfl, if_pos h]; rfl
  · rw [if_neg (fun z => e z.symm), if_neg e]
theorem port_set_self {b : Ql46.Bridge} {i : Nat} {q : Ql46.Port} (h : i < b.ports.length) : (b.set (i + 1) q).port (i + 1) = q := by rw [port_set h, if_pos rfl]
theorem Rep.setPort {d : Ql46.Doing} (R : Rep t L H d) {i : Nat} {a : Addr} (hi : L.ps[i]? = some a) {q : Ql46.Port} {dx lr : Addr} {wc : Nat} (hl : LeadAt t H lr q.root q.cost q.bridge q.port) (hw : q.state ≠ 0 → wc = q.pathCost) :
    Rep t L (upd H a (.ins t.C_Port dx (poF (i + 1) q lr wc))) (d.1.set (i + 1) q, d.2) := by
  obtain ⟨dx0, lr0, wc0, h0⟩ := R.po i a hi
  have hil : i < d.1.ports.length := by rw [← R.len]; exact (List.getElem?_eq_some_iff.mp hi).1
  have kp : ∀ b o, H b = some o → Nat.beq (shp o) 10 = false → upd H a (.ins t.C_Port dx (poF (i + 1) q lr wc)) b = some o := fun b o e hs => by
    rw [upd_ne (ne_shp e h0.at_ hs)]; exact e
  have kl : ∀ {x r c b p}, LeadAt t H x r c b p → LeadAt t (upd H a (.ins t.C_Port dx (poF (i + 1) q lr wc))) x r c b p := fun ⟨dd, e⟩ => ⟨dd, kp _ _ e rfl⟩
  refine ⟨?_, kp _ _ R.pl rfl, R.nd, ?_, fun j c hj => ?_, ?_, ?_, ?_, R.ne⟩
  · obtain ⟨dx, tr, h⟩ := R.br
    exact ⟨dx, tr, kp _ _ h.at_ rfl, let ⟨dd, e⟩ := h.times; ⟨dd, kp _ _ e rfl⟩⟩
  · show _ = (d.1.ports.set _ _).length
    rw [List.length_set]; exact R.len
  · rw [port_set hil]
    by_cases e : j = i
    · subst e
      have e2 : a = c := Option.some.inj (hi.symm.trans hj)
      subst e2
      rw [if_pos rfl]
      exact ⟨dx, lr, wc, upd_same, kl hl, hw⟩
    · rw [if_neg e]
      obtain ⟨dx', lr', wc', h'⟩ := R.po j c hj
      have hne : c ≠ a := fun z => e (nd_ix R.nd hj (by rw [z]; exact hi))
      exact ⟨dx', lr', wc', by rw [upd_ne hne]; exact h'.at_, kl h'.lead, h'.way⟩
  · obtain ⟨dd, e⟩ := R.ad
    exact ⟨dd, kp _ _ e rfl⟩
  · exact R.tab.keep (fun _ e => kp _ _ e rfl) (fun _ _ e => kp _ _ e rfl)
  · exact R.sent.keep (fun _ e => kp _ _ e rfl) (fun _ _ e => kp _ _ e rfl) (fun _ _ _ e => kp _ _ e rfl)
theorem Rep.setBr {d : Ql46.Doing} (R : Rep t L H d) {b : Ql46.Bridge} {dx tr : Addr} (hp : b.ports = d.1.ports) (ht : b.table = d.1.table) (htm : TimesAt t H tr b.maxAge b.hello b.delay) :
    Rep t L (upd H L.b (.ins t.C_Bridge dx (brF L b tr))) (b, d.2) := by
  obtain ⟨dx0, tr0, h0⟩ := R.br
  have kp : ∀ c o, H c = some o → Nat.beq (shp o) 13 = false → upd H L.b (.ins t.C_Bridge dx (brF L b tr)) c = some o := fun c o e hs => by
    rw [upd_ne (ne_shp e h0.at_ hs)]; exact e
  have pq : ∀ k, b.port k = d.1.port k := fun k => by unfold Ql46.Bridge.port; rw [hp]
  refine ⟨⟨dx, tr, upd_same, let ⟨dd, e⟩ := htm; ⟨dd, kp _ _ e rfl⟩⟩, kp _ _ R.pl rfl, R.nd, by rw [R.len, hp], fun j c hj => ?_, ?_, ?_, ?_, R.ne⟩
  · obtain ⟨dx', lr', wc', h'⟩ := R.po j c hj
    rw [pq]
    exact ⟨dx', lr', wc', kp _ _ h'.at_ rfl, let ⟨dd, e⟩ := h'.lead; ⟨dd, kp _ _ e rfl⟩, h'.way⟩
  · obtain ⟨dd, e⟩ := R.ad
    exact ⟨dd, kp _ _ e rfl⟩
  · rw [ht]; exact R.tab.keep (fun _ e => kp _ _ e rfl) (fun _ _ e => kp _ _ e rfl)
  · exact R.sent.keep (fun _ e => kp _ _ e rfl) (fun _ _ e => kp _ _ e rfl) (fun _ _ _ e => kp _ _ e rfl)
def Kp (L : Lay) (H H' : Hp) : Prop := ∀ a o, H a = some o → ¬ Mu L a → H' a = some o
structure Rp (t : Adr) (L : Lay) (H H' : Hp) (d : Ql46.Doing) : Prop where
  rep : Rep t L H' d
  kp : Kp L H H'
theorem Rep.rp {d : Ql46.Doing} (R : Rep t L H d) : Rp t L H H d := ⟨R, fun _ _ e _ => e⟩
theorem Rp.trans {H0 : Hp} {d d' : Ql46.Doing} (a : Rp t L H0 H d) (b : Rp t L H H' d') : Rp t L H0 H' d' := ⟨b.rep, fun x o e m => b.kp x o (a.kp x o e m) m⟩
theorem Rp.same {H0 : Hp} {d : Ql46.Doing} (a : Rp t L H0 H d) (s : Same H H') : Rp t L H0 H' d := ⟨a.rep.same s, fun x o e m => s _ _ (a.kp x o e m)⟩
theorem Rp.setPort {H0 : Hp} {d : Ql46.Doing} (R : Rp t L H0 H d) {i : Nat} {a : Addr} (hi : L.ps[i]? = some a) {q : Ql46.Port} {dx lr : Addr} {wc : Nat} (hl : LeadAt t H lr q.root q.cost q.bridge q.port) (hw : q.state ≠ 0 → wc = q.pathCost) :
    Rp t L H0 (upd H a (.ins t.C_Port dx (poF (i + 1) q lr wc))) (d.1.set (i + 1) q, d.2) :=
  ⟨R.rep.setPort hi hl hw, fun x o e m => by
    rw [upd_ne (fun z => m (.inr (.inr (.inr (.inr (by rw [z]; exact List.mem_of_getElem? hi))))))]; exact R.kp x o e m⟩
theorem Rp.setBr {H0 : Hp} {d : Ql46.Doing} (R : Rp t L H0 H d) {b : Ql46.Bridge} {dx tr : Addr} (hp : b.ports = d.1.ports) (ht : b.table = d.1.table) (htm : TimesAt t H tr b.maxAge b.hello b.delay) :
    Rp t L H0 (upd H L.b (.ins t.C_Bridge dx (brF L b tr))) (b, d.2) :=
  ⟨R.rep.setBr hp ht htm, fun x o e m => by rw [upd_ne (fun z => m (.inl z))]; exact R.kp x o e m⟩
theorem Rep.notMu {d : Ql46.Doing} (R : Rep t L H d) {a : Addr} {o : HO} (h : H a = some o) (hs : Nat.beq (shp o) 13 = false ∧ Nat.beq (shp o) 1 = false ∧ Nat.beq (shp o) 102 = false ∧ Nat.beq (shp o) 10 = false) (hl : a ≠ L.sl) : ¬ Mu L a := by
  rintro (e | e | e | e | e)
  · obtain ⟨dx, tr, q⟩ := R.br
    exact ne_shp h q.at_ hs.1 e
  · obtain ⟨dx, q⟩ := R.ad
    exact ne_shp h q hs.2.1 e
  · obtain ⟨kvs, q, _⟩ := R.tab
    exact ne_shp h q hs.2.2.1 e
  · exact hl e
  · obtain ⟨i, hi⟩ := List.getElem?_of_mem e
    obtain ⟨dx, lr, wc, q⟩ := R.po i a hi
    exact ne_shp h q.at_ hs.2.2.2 rfl
theorem Rep.notMu' {d : Ql46.Doing} (R : Rep t L H d) {a : Addr} {o : HO} (h : H a = some o) (hs : Nat.beq (shp o) 13 = false ∧ Nat.beq (shp o) 1 = false ∧ Nat.beq (shp o) 102 = false ∧ Nat.beq (shp o) 10 = false ∧ Nat.beq (shp o) 100 = false) : ¬ Mu L a :=
  R.notMu h ⟨hs.1, hs.2.1, hs.2.2.1, hs.2.2.2.1⟩ (let ⟨as, q, _⟩ := R.sent; ne_shp h q hs.2.2.2.2)
end
end Tb
local macro_rules | `(tactic| walk_at "ift") => `(tactic| (dsimp only; rw [if_pos rfl]))
local macro_rules | `(tactic| walk_at "iff") => `(tactic| (dsimp only; rw [if_neg Bool.false_ne_true]))
namespace Tb
open PySem PySem.Spec PyProof.Rows L2
theorem putF_le (f : Str) (v : V) : ∀ fs : List (Str × V), (putF f v fs).length ≤ fs.length + 1
  | [] => Nat.le_refl _
  | p :: r => by
    unfold putF
    split
    · exact Nat.le_succ _
    · exact Nat.succ_le_succ (putF_le f v r)
theorem int_beq (a b : Nat) : decide (V.int (a : Int) = V.int (b : Int)) = (a == b) := by
  by_cases h : a = b
  · subst h; simp
  · rw [decide_eq_false (fun z => h (by have := V.int.inj z; omega))]
    exact (beq_eq_false_iff_ne.mpr h).symm
section
variable {P : Program} {w : World} {K : PySem.W.Frag} {mg : Str → Option Value} {base : Heap} {t : Adr}
def notesF (fs : List (Str × V)) : List (Str × V) := putF "to_call_known" (.bl false) (putF "to_tell" (.bl false) fs)
def sp_Port_forget_notes (K : PySem.W.Frag) (t : Adr) : Sp := sp1 fun x H Q => ∃ p dx fs, x = .ref p ∧ H p = some (.ins t.C_Port dx fs) ∧ fs.length < 900 ∧ Q .non (upd H p (.ins t.C_Port dx (notesF fs)))
theorem ok_Port_forget_notes (T : Txt K mg t) : FnOk P w K mg base CX0 1 t.f_Port_forget_notes t.fd_Port_forget_notes ["self"] (sp_Port_forget_notes K t) := by
  refine T.F_Port_forget_notes.okQ sc_Port_forget_notes sp1_len (fun cdv A outer s H vs Q E hr h => ?_)
  obtain ⟨x0, rfl, h⟩ := h
  obtain ⟨p, dx, fs, rfl, hp, hl, k⟩ := h
  refine ⟨_, (qb_cons (qs_fld (K := K) rfl (qv 0) q_bl rfl) (qb_one (qs_fld (K := K) rfl (qv 0) q_bl rfl))), ?_⟩
  refine ⟨_, rfl, p, _, dx, _, rfl, hp, T.l_Port, T.a_Port_to_tell, by omega, ?_⟩
  refine ⟨_, rfl, p, _, dx, _, rfl, upd_same, T.l_Port, T.a_Port_to_call_known, by have := putF_le "to_tell" (.bl false) fs; omega, ?_⟩
  rw [upd_upd]
  exact k
def offF (fs : List (Str × V)) : List (Str × V) := notesF (putF "hold" .non (putF "wait" .non (putF "age" .non (putF "state" (.int 0) fs))))
def sp_Port_turn_off (K : PySem.W.Frag) (t : Adr) : Sp := sp1 fun x H Q => ∃ p dx fs, x = .ref p ∧ H p = some (.ins t.C_Port dx fs) ∧ fs.length < 800 ∧ (putF "hold" .non (putF "wait" .non (putF "age" .non (putF "state" (.int 0) fs)))).lookup ("forget_notes" : Str) = none ∧
  Q .non (upd H p (.ins t.C_Port dx (offF fs)))
theorem ok_Port_turn_off (T : Txt K mg t) : FnOk P w K mg base CX0 2 t.f_Port_turn_off t.fd_Port_turn_off ["self"] (sp_Port_turn_off K t) := by
  refine T.F_Port_turn_off.okQ sc_Port_turn_off sp1_len (fun cdv A outer s H vs Q E hr h => ?_)
  obtain ⟨x0, rfl, h⟩ := h
  obtain ⟨p, dx, fs, rfl, hp, hl, hn, k⟩ := h
  refine ⟨_, (qb_cons (qs_fld (K := K) rfl (qv 0) (q_gi rfl T.c_OFF) rfl) (qb_cons (qs_fld (K := K) rfl (qv 0) q_non rfl) (qb_cons (qs_fld (K := K) rfl (qv 0) q_non rfl) (qb_cons (qs_fld (K := K) rfl (qv 0) q_non rfl) (qb_one (qs_expr (q_meth0 (qv 0) T.l_Port T.M_Port_forget_notes (ok_Port_forget_notes (K := K) T) (hr.mono (by decide)) T.b_Port_forget_notes .nil pass0))))))), ?_⟩
  have h1 := putF_le "state" (.int 0) fs
  have h2 := putF_le "age" .non (putF "state" (.int 0) fs)
  have h3 := putF_le "wait" .non (putF "age" .non (putF "state" (.int 0) fs))
  have h4 := putF_le "hold" .non (putF "wait" .non (putF "age" .non (putF "state" (.int 0) fs)))
  refine ⟨_, rfl, p, _, dx, _, rfl, hp, T.l_Port, T.a_Port_state, by omega, ?_⟩
  refine ⟨_, rfl, p, _, dx, _, rfl, upd_same, T.l_Port, T.a_Port_age, by omega, ?_⟩
  refine ⟨_, rfl, p, _, dx, _, rfl, upd_same, T.l_Port, T.a_Port_wait, by omega, ?_⟩
  refine ⟨_, rfl, p, _, dx, _, rfl, upd_same, T.l_Port, T.a_Port_hold, by omega, ?_⟩
  rw [upd_upd, upd_upd, upd_upd]
  refine ⟨_, rfl, p, dx, _, rfl, upd_same, hn, _, rfl, p, dx, _, rfl, upd_same, by omega, ?_⟩
  rw [upd_upd]
  exact k
def fwdF (fs : List (Str × V)) : List (Str × V) := putF "wait" (.int 0) (putF "state" (.int 2) fs)
def sp_Port_start_forwarding (K : PySem.W.Frag) (t : Adr) : Sp := sp1 fun x H Q => ∃ p dx fs s, x = .ref p ∧ H p = some (.ins t.C_Port dx fs) ∧ fs.length < 900 ∧ fs.lookup ("state" : Str) = some (V.int s) ∧
  (s = 1 → Q .non (upd H p (.ins t.C_Port dx (fwdF fs)))) ∧ (s ≠ 1 → Q .non H)
theorem ok_Port_start_forwarding (T : Txt K mg t) : FnOk P w K mg base CX0 1 t.f_Port_start_forwarding t.fd_Port_start_forwarding ["self"] (sp_Port_start_forwarding K t) := by
  refine T.F_Port_start_forwarding.okQ sc_Port_start_forwarding sp1_len (fun cdv A outer s H vs Q E hr h => ?_)
  obtain ⟨x0, rfl, h⟩ := h
  obtain ⟨p, dx, fs, s, rfl, hp, hl, hs, k1, k2⟩ := h
  refine ⟨_, (qb_one (qs_if (qt_cmp op_eq (q_fld (K := K) rfl (qv 0) rfl) (q_gi rfl T.c_BLOCKING) (nomark _)) (qb_cons (qs_fld (K := K) rfl (qv 0) (q_gi rfl T.c_LISTENING) rfl) (qb_one (qs_fld (K := K) rfl (qv 0) q_int rfl))) qb_nil)), ?_⟩
  refine ⟨_, rfl, p, _, _, _, _, rfl, hp, T.l_Port, T.a_Port_state, hs, rfl, _, rfl, ?_⟩
  refine ifD (fun c => ?_) (fun c => ?_)
  · have h1 := putF_le "state" (.int 2) fs
    refine ⟨_, rfl, p, _, dx, _, rfl, hp, T.l_Port, T.a_Port_state, by omega, ?_⟩
    refine ⟨_, rfl, p, _, dx, _, rfl, upd_same, T.l_Port, T.a_Port_wait, by omega, ?_⟩
    rw [upd_upd]
    exact k1 (V.int.inj c)
  · exact k2 fun e => c (congrArg V.int e)
def sp_Port_init (K : PySem.W.Frag) (t : Adr) : Sp := sp2 fun x y H Q => ∃ p dx, ∃ k : Nat, x = .ref p ∧ y = .int k ∧ H p = some (.ins t.C_Port dx []) ∧
  ∀ H' lr, (∀ b o, H b = some o → b ≠ p → H' b = some o) → H' p = some (.ins t.C_Port dx (poF k Ql46.off lr 0)) → LeadAt t H' lr 0 0 0 0 → (∀ b, H' b = none → H b = none) → Q .non H'
theorem ok_Port_init (T : Txt K mg t) : FnOk P w K mg base CX0 3 t.f_Port_init t.fd_Port_init ["self", "place"] (sp_Port_init K t) := by
  refine T.F_Port_init.okQ sc_Port_init sp2_len (fun cdv A outer s H vs Q E hr h => ?_)
  obtain ⟨x0, x1, rfl, h⟩ := h
  obtain ⟨p, dx, k0, rfl, rfl, hp, k⟩ := h
  refine ⟨_, (qb_cons (qs_fld (K := K) rfl (qv 0) (qv 1) rfl) (qb_cons (qs_fld (K := K) rfl (qv 0) (q_op op_add q_int (qv 1)) rfl) (qb_cons (qs_fld (K := K) rfl (qv 0) q_int rfl) (qb_cons (qs_fld (K := K) rfl (qv 0) (q_make T.K_Leader (ok_Leader_init (K := K) T) (hr.mono (by decide)) rfl T.m_Leader T.b_Leader_init .nil pass0 (qac q_int (qac q_int (qac q_int (qac q_int qa_nil))))) rfl) (qb_one (qs_expr (q_meth0 (qv 0) T.l_Port T.M_Port_turn_off (ok_Port_turn_off (K := K) T) (hr.mono (by decide)) T.b_Port_turn_off .nil pass0))))))), ?_⟩
  refine ⟨_, rfl, _, rfl, p, _, dx, _, rfl, hp, T.l_Port, T.a_Port_place, few, ?_⟩
  refine ⟨_, rfl, _, _, rfl, rfl, _, rfl, p, _, dx, _, rfl, upd_same, T.l_Port, T.a_Port_own_number, few, ?_⟩
  refine ⟨_, rfl, p, _, dx, _, rfl, upd_same, T.l_Port, T.a_Port_way_cost, few, ?_⟩
  rw [upd_upd, upd_upd]
  refine fun y dy n1 n2 ne => ⟨_, _, _, _, _, rfl, y, dy, rfl, upd_same, rfl, ?_⟩
  have hy : p ≠ y := (upd_none_ne n1).symm
  have hdy : p ≠ dy := (upd_none_ne n2).symm
  refine ⟨_, rfl, p, _, dx, _, rfl, by rw [upd_ne hy, upd_ne hy, upd_ne hdy]; exact upd_same, T.l_Port, T.a_Port_leader, few, ?_⟩
  refine ⟨_, rfl, p, dx, _, rfl, upd_same, rfl, _, rfl, p, dx, _, rfl, upd_same, Nat.le_of_ble_eq_true rfl, rfl, ?_⟩
  refine k _ y (fun b o e hb => ?_) upd_same ⟨dy, ?_⟩ (fun b e => upd_none (upd_none (upd_none (upd_none (upd_none (upd_none e))))))
  · rw [upd_ne hb, upd_ne hb, upd_ne (ne_of_none e (upd_none n1)), upd_ne (ne_of_none e (upd_none n1)), upd_ne (ne_of_none e (upd_none n2)), upd_ne hb]
    exact e
  · rw [upd_ne hy.symm, upd_ne hy.symm]
    exact upd_same
theorem _root_.List.ix_lt {α : Type} {l : List α} {i : Nat} {a : α} (h : l[i]? = some a) : i < l.length := (List.getElem?_eq_some_iff.mp h).1
def sp_Bridge_is_root (K : PySem.W.Frag) (t : Adr) : Sp := sp1 fun x H Q => ∃ L d, x = .ref L.b ∧ Rep t L H d ∧ Q (.bl d.1.isRoot) H
theorem ok_Bridge_is_root (T : Txt K mg t) : FnOk P w K mg base CX0 1 t.f_Bridge_is_root t.fd_Bridge_is_root ["self"] (sp_Bridge_is_root K t) := by
  refine T.F_Bridge_is_root.okQ sc_Bridge_is_root sp1_len (fun cdv A outer s H vs Q E hr h => ?_)
  obtain ⟨x0, rfl, h⟩ := h
  obtain ⟨L, d, rfl, R, k⟩ := h
  obtain ⟨dx, tr, hb⟩ := R.br
  refine ⟨_, (qb_one (qs_ret (q_cmp op_eq (q_fld (K := K) rfl (qv 0) rfl) (q_fld (K := K) rfl (qv 0) rfl) (nomark _)))), ?_⟩
  refine ⟨_, rfl, L.b, _, _, _, _, rfl, hb.at_, T.l_Bridge, T.a_Bridge_root, g_Bridge_root, _, rfl, L.b, _, _, _, _, rfl, hb.at_, T.l_Bridge, T.a_Bridge_own_id, g_Bridge_own_id, rfl, ?_⟩
  have e : decide (V.int (d.1.root : Nat) = V.int (d.1.id : Nat)) = d.1.isRoot := int_beq _ _
  rw [e]; exact k
def sp_Bridge_is_led (K : PySem.W.Frag) (t : Adr) : Sp := sp2 fun x y H Q => ∃ L d i a, x = .ref L.b ∧ y = .ref a ∧ L.ps[i]? = some a ∧ Rep t L H d ∧ Q (.bl (d.1.leads (i + 1))) H
theorem ok_Bridge_is_led (T : Txt K mg t) : FnOk P w K mg base CX0 1 t.f_Bridge_is_led t.fd_Bridge_is_led ["self", "port"] (sp_Bridge_is_led K t) := by
  refine T.F_Bridge_is_led.okQ sc_Bridge_is_led sp2_len (fun cdv A outer s H vs Q E hr h => ?_)
  obtain ⟨x0, x1, rfl, h⟩ := h
  obtain ⟨L, d, i, a, rfl, rfl, hi, R, k⟩ := h
  obtain ⟨dx, tr, hb⟩ := R.br
  obtain ⟨dp, lr, wc, hp⟩ := R.po i a hi
  obtain ⟨dl, hl⟩ := hp.lead
  refine ⟨_, (qb_one (qs_ret (q_and (q_cmp op_eq (q_fld (K := K) rfl (q_fld (K := K) rfl (qv 1) rfl) rfl) (q_fld (K := K) rfl (qv 0) rfl) (nomark _)) (q_one (q_cmp op_eq (q_fld (K := K) rfl (q_fld (K := K) rfl (qv 1) rfl) rfl) (q_fld (K := K) rfl (qv 1) rfl) (nomark _)))))), ?_⟩
  refine ⟨_, rfl, a, _, _, _, _, rfl, hp.at_, T.l_Port, T.a_Port_leader, g_Port_leader, lr, _, _, _, _, rfl, hl, T.l_Leader, T.a_Leader_bridge, g_Leader_bridge, _, rfl, L.b, _, _, _, _, rfl, hb.at_, T.l_Bridge, T.a_Bridge_own_id, g_Bridge_own_id, rfl, _, rfl, ?_⟩
  have e1 : decide (V.int ((d.1.port (i + 1)).bridge : Nat) = V.int (d.1.id : Nat)) = ((d.1.port (i + 1)).bridge == d.1.id) := int_beq _ _
  rw [e1]
  refine ifB (fun c => ?_) (fun c => ?_)
  · refine ⟨_, rfl, a, _, _, _, _, rfl, hp.at_, T.l_Port, T.a_Port_leader, g_Port_leader, lr, _, _, _, _, rfl, hl, T.l_Leader, T.a_Leader_port, g_Leader_port, _, rfl, a, _, _, _, _, rfl, hp.at_, T.l_Port, T.a_Port_own_number, g_Port_own_number, rfl, ?_⟩
    have e2 : decide (V.int ((d.1.port (i + 1)).port : Nat) = V.int (32768 + (i + 1) : Nat)) = ((d.1.port (i + 1)).port == Ql46.portId (i + 1)) := int_beq _ _
    rw [e2]
    have e3 : d.1.leads (i + 1) = ((d.1.port (i + 1)).port == Ql46.portId (i + 1)) := by
      unfold Ql46.Bridge.leads
      dsimp only
      rw [c, Bool.true_and]
    rw [← e3]; exact k
  · have e3 : d.1.leads (i + 1) = false := by
      unfold Ql46.Bridge.leads
      dsimp only
      rw [c, Bool.false_and]
    rw [e3] at k; exact k
end
end Tb
local macro_rules | `(tactic| walk_at "ift") => `(tactic| (dsimp only; rw [if_pos rfl]))
local macro_rules | `(tactic| walk_at "iff") => `(tactic| (dsimp only; rw [if_neg Bool.false_ne_true]))
namespace Tb
open PySem PySem.Spec PyProof.Rows L2
def betterB (id r c b p r' c' b' p' : Nat) : Bool := decide (r < r') || (r == r' && (decide (c < c') || (c == c' && (decide (b < b') || (b == b' && (b != id || decide (p ≤ p')))))))
theorem int_bne (a b : Nat) : (!decide (V.int (a : Int) = V.int (b : Int))) = (a != b) := by rw [int_beq]; rfl
section
variable {P : Program} {w : World} {K : PySem.W.Frag} {mg : Str → Option Value} {base : Heap} {t : Adr}
def sp_is_better (K : PySem.W.Frag) (t : Adr) : Sp := sp3 fun x y z H Q => ∃ (a a' : Addr) (id r c b p r' c' b' p' : Nat), x = .ref a ∧ y = .ref a' ∧ z = .int id ∧ LeadAt t H a r c b p ∧ LeadAt t H a' r' c' b' p' ∧ Q (.bl (betterB id r c b p r' c' b' p')) H
theorem ok_is_better (T : Txt K mg t) : FnOk P w K mg base CX0 1 t.f_is_better t.fd_is_better ["new", "old", "own_id"] (sp_is_better K t) := by
  refine T.F_is_better.okQ sc_is_better sp3_len (fun cdv A outer s H vs Q E hr h => ?_)
  obtain ⟨x0, x1, x2, rfl, h⟩ := h
  obtain ⟨a, a', id, r, c, b, p, r', c', b', p', rfl, rfl, rfl, ⟨dx, h1⟩, ⟨dy, h2⟩, k⟩ := h
  unfold betterB at k
  refine ⟨_, (qb_cons (qs_if (qt_cmp op_ne (q_fld (K := K) rfl (qv 0) rfl) (q_fld (K := K) rfl (qv 1) rfl) (nomark _)) (qb_one (qs_ret (q_cmp op_lt (q_fld (K := K) rfl (qv 0) rfl) (q_fld (K := K) rfl (qv 1) rfl) (nomark _)))) qb_nil) (qb_cons (qs_if (qt_cmp op_ne (q_fld (K := K) rfl (qv 0) rfl) (q_fld (K := K) rfl (qv 1) rfl) (nomark _)) (qb_one (qs_ret (q_cmp op_lt (q_fld (K := K) rfl (qv 0) rfl) (q_fld (K := K) rfl (qv 1) rfl) (nomark _)))) qb_nil) (qb_cons (qs_if (qt_cmp op_ne (q_fld (K := K) rfl (qv 0) rfl) (q_fld (K := K) rfl (qv 1) rfl) (nomark _)) (qb_one (qs_ret (q_cmp op_lt (q_fld (K := K) rfl (qv 0) rfl) (q_fld (K := K) rfl (qv 1) rfl) (nomark _)))) qb_nil) (qb_one (qs_ret (q_or (q_cmp op_ne (q_fld (K := K) rfl (qv 0) rfl) (qv 2) (nomark _)) (q_one (q_cmp op_le (q_fld (K := K) rfl (qv 0) rfl) (q_fld (K := K) rfl (qv 1) rfl) (nomark _))))))))), ?_⟩
  refine ⟨_, rfl, a, _, _, _, _, rfl, h1, T.l_Leader, T.a_Leader_root, g_Leader_root, _, rfl, a', _, _, _, _, rfl, h2, T.l_Leader, T.a_Leader_root, g_Leader_root, rfl, _, rfl, ?_⟩
  refine ifND (fun q => ?_) (fun q => ?_)
  · have q : r ≠ r' := fun e => q (by rw [e])
    refine ⟨_, rfl, a, _, _, _, _, rfl, h1, T.l_Leader, T.a_Leader_root, g_Leader_root, _, rfl, a', _, _, _, _, rfl, h2, T.l_Leader, T.a_Leader_root, g_Leader_root, _, _, rfl, rfl, ?_⟩
    rw [beq_eq_false_iff_ne.mpr q, Bool.false_and, Bool.or_false] at k
    dsimp only
    rw [show decide ((r : Int) < (r' : Int)) = decide (r < r') from decide_eq_decide.mpr (by omega)]
    exact k
  have q : r = r' := by have := V.int.inj q; omega
  subst q
  rw [beq_self_eq_true, Bool.true_and, decide_eq_false (Nat.lt_irrefl _), Bool.false_or] at k
  refine ⟨_, rfl, a, _, _, _, _, rfl, h1, T.l_Leader, T.a_Leader_cost, g_Leader_cost, _, rfl, a', _, _, _, _, rfl, h2, T.l_Leader, T.a_Leader_cost, g_Leader_cost, rfl, _, rfl, ?_⟩
  refine ifND (fun q => ?_) (fun q => ?_)
  · have q : c ≠ c' := fun e => q (by rw [e])
    refine ⟨_, rfl, a, _, _, _, _, rfl, h1, T.l_Leader, T.a_Leader_cost, g_Leader_cost, _, rfl, a', _, _, _, _, rfl, h2, T.l_Leader, T.a_Leader_cost, g_Leader_cost, _, _, rfl, rfl, ?_⟩
    rw [beq_eq_false_iff_ne.mpr q, Bool.false_and, Bool.or_false] at k
    dsimp only
    rw [show decide ((c : Int) < (c' : Int)) = decide (c < c') from decide_eq_decide.mpr (by omega)]
    exact k
  have q : c = c' := by have := V.int.inj q; omega
  subst q
  rw [beq_self_eq_true, Bool.true_and, decide_eq_false (Nat.lt_irrefl _), Bool.false_or] at k
  refine ⟨_, rfl, a, _, _, _, _, rfl, h1, T.l_Leader, T.a_Leader_bridge, g_Leader_bridge, _, rfl, a', _, _, _, _, rfl, h2, T.l_Leader, T.a_Leader_bridge, g_Leader_bridge, rfl, _, rfl, ?_⟩
  refine ifND (fun q => ?_) (fun q => ?_)
  · have q : b ≠ b' := fun e => q (by rw [e])
    refine ⟨_, rfl, a, _, _, _, _, rfl, h1, T.l_Leader, T.a_Leader_bridge, g_Leader_bridge, _, rfl, a', _, _, _, _, rfl, h2, T.l_Leader, T.a_Leader_bridge, g_Leader_bridge, _, _, rfl, rfl, ?_⟩
    rw [beq_eq_false_iff_ne.mpr q, Bool.false_and, Bool.or_false] at k
    dsimp only
    rw [show decide ((b : Int) < (b' : Int)) = decide (b < b') from decide_eq_decide.mpr (by omega)]
    exact k
  have q : b = b' := by have := V.int.inj q; omega
  subst q
  rw [beq_self_eq_true, Bool.true_and, decide_eq_false (Nat.lt_irrefl _), Bool.false_or] at k
  refine ⟨_, rfl, a, _, _, _, _, rfl, h1, T.l_Leader, T.a_Leader_bridge, g_Leader_bridge, _, rfl, rfl, _, rfl, ?_⟩
  rw [int_bne]
  refine ifB (fun q => ?_) (fun q => ?_)
  · rw [q, Bool.true_or] at k
    exact k
  · rw [q, Bool.false_or] at k
    refine ⟨_, rfl, a, _, _, _, _, rfl, h1, T.l_Leader, T.a_Leader_port, g_Leader_port, _, rfl, a', _, _, _, _, rfl, h2, T.l_Leader, T.a_Leader_port, g_Leader_port, _, _, rfl, rfl, ?_⟩
    dsimp only
    rw [show decide ((p : Int) ≤ (p' : Int)) = decide (p ≤ p') from decide_eq_decide.mpr (by omega)]
    exact k
def sp_rank (K : PySem.W.Frag) (t : Adr) : Sp := sp1 fun x H Q => ∃ a k q dx lr wc, x = .ref a ∧ PortAt t H a k q dx lr wc ∧ ∀ p, H p = none → Q (.ref p) (upd H p (.tup [.int (q.root : Nat), .int (q.cost + wc : Nat), .int (q.bridge : Nat), .int (q.port : Nat), .int (k : Nat)]))
theorem ok_rank (T : Txt K mg t) : FnOk P w K mg base CX0 1 t.f_rank t.fd_rank ["port"] (sp_rank K t) := by
  refine T.F_rank.okQ sc_rank sp1_len (fun cdv A outer s H vs Q E hr h => ?_)
  obtain ⟨x0, rfl, h⟩ := h
  obtain ⟨a, i, q, dx, lr, wc, rfl, ⟨hp, ⟨dl, hl⟩, _⟩, k⟩ := h
  refine ⟨_, (qb_cons (qs_set (i := 1) sc_rank.nd rfl (Or.inl rfl) (q_fld (K := K) rfl (qv 0) rfl)) (qb_one (qs_ret (q_tup (qac (q_fld (K := K) rfl (qv 1) rfl) (qac (q_op op_add (q_fld (K := K) rfl (qv 1) rfl) (q_fld (K := K) rfl (qv 0) rfl)) (qac (q_fld (K := K) rfl (qv 1) rfl) (qac (q_fld (K := K) rfl (qv 1) rfl) (qac (q_fld (K := K) rfl (qv 0) rfl) qa_nil))))))))), ?_⟩
  refine ⟨_, rfl, a, _, _, _, _, rfl, hp, T.l_Port, T.a_Port_leader, g_Port_leader, ?_⟩
  refine ⟨_, rfl, lr, _, _, _, _, rfl, hl, T.l_Leader, T.a_Leader_root, g_Leader_root, _, rfl, lr, _, _, _, _, rfl, hl, T.l_Leader, T.a_Leader_cost, g_Leader_cost, _, rfl, a, _, _, _, _, rfl, hp, T.l_Port, T.a_Port_way_cost, g_Port_way_cost, _, _, rfl, rfl,
    _, rfl, lr, _, _, _, _, rfl, hl, T.l_Leader, T.a_Leader_bridge, g_Leader_bridge, _, rfl, lr, _, _, _, _, rfl, hl, T.l_Leader, T.a_Leader_port, g_Leader_port, _, rfl, a, _, _, _, _, rfl, hp, T.l_Port, T.a_Port_place, g_Port_place, sz, fun p' hp' => k p' hp'⟩
def sp_standard_times (K : PySem.W.Frag) (t : Adr) : Sp := sp0 fun H Q => ∀ H' x, Same H H' → TimesAt t H' x 20 2 15 → Q (.ref x) H'
theorem ok_standard_times (T : Txt K mg t) : FnOk P w K mg base CX0 3 t.f_standard_times t.fd_standard_times [] (sp_standard_times K t) := by
  refine T.F_standard_times.okQ sc_standard_times sp0_len (fun cdv A outer s H vs Q E hr h => ?_)
  obtain ⟨rfl, h⟩ := h
  refine ⟨_, (qb_one (qs_ret (q_make T.K_Times (ok_Times_init (K := K) T) (hr.mono (by decide)) rfl T.m_Times T.b_Times_init .nil pass0 (qac q_int (qac q_int (qac q_int qa_nil)))))), ?_⟩
  exact fun x dx n1 n2 ne => ⟨_, _, _, _, rfl, x, dx, rfl, upd_same, rfl, h _ x (made_same n1 n2) ⟨dx, upd_same⟩⟩
def sp_Bridge_port_at (K : PySem.W.Frag) (t : Adr) : Sp := sp2 fun x y H Q => ∃ L d, ∃ k : Nat, x = .ref L.b ∧ y = .int (k : Nat) ∧ Rep t L H d ∧ ((k < 1 ∨ L.ps.length < k) → Q .non H) ∧ (∀ i a, k = i + 1 → L.ps[i]? = some a → Q (.ref a) H)
theorem ok_Bridge_port_at (T : Txt K mg t) : FnOk P w K mg base CX0 1 t.f_Bridge_port_at t.fd_Bridge_port_at ["self", "place"] (sp_Bridge_port_at K t) := by
  refine T.F_Bridge_port_at.okQ sc_Bridge_port_at sp2_len (fun cdv A outer s H vs Q E hr h => ?_)
  obtain ⟨x0, x1, rfl, h⟩ := h
  obtain ⟨L, d, k, rfl, rfl, R, k1, k2⟩ := h
  obtain ⟨dx, tr, hb⟩ := R.br
  refine ⟨_, (qb_cons (qs_if (QW.pt (qw_or (qt_cmp op_lt (qv 1) q_int (nomark _)) (qw_or1 (qt_cmp op_gt (qv 1) (q_callB (k_len (K := K) rfl) rfl T.n_len PySem.boot_len (qac (q_fld (K := K) rfl (qv 0) rfl) qa_nil)) (nomark _))))) (qb_one (qs_ret q_non)) qb_nil) (qb_one (qs_ret (q_ix (k_ixl (K := K) rfl) (q_fld (K := K) rfl (qv 0) rfl) (q_op op_sub (qv 1) q_int) (fun _ _ => rfl))))), ?_⟩
  refine ⟨_, rfl, _, _, rfl, rfl, _, rfl, ?_⟩
  refine ifD (fun c => ?_) (fun c => ?_)
  · walk_at "ift"
    exact k1 (.inl (by omega))
  refine ⟨_, rfl, _, rfl, L.b, _, _, _, _, rfl, hb.at_, T.l_Bridge, T.a_Bridge_ports, g_Bridge_ports, L.pl, _, rfl, .inl (SqL.of R.pl), _, _, rfl, rfl, _, rfl, ?_⟩
  rw [List.length_map]
  refine ifD (fun c2 => ?_) (fun c2 => ?_)
  · exact k1 (.inr (by omega))
  obtain ⟨i, rfl⟩ : ∃ i, k = i + 1 := ⟨k - 1, by omega⟩
  have hi : i < L.ps.length := by omega
  refine ⟨_, rfl, L.b, _, _, _, _, rfl, hb.at_, T.l_Bridge, T.a_Bridge_ports, g_Bridge_ports, _, rfl, _, _, rfl, rfl, L.pl, _, _, _, rfl, rfl, SqL.of R.pl, at_of (j := i) (v := .ref L.ps[i]) (by omega) ?_, k2 i _ rfl (List.getElem?_eq_getElem hi)⟩
  rw [List.getElem?_map, List.getElem?_eq_getElem hi]; rfl
def sp_Bridge_own_leader (K : PySem.W.Frag) (t : Adr) : Sp := sp2 fun x y H Q => ∃ L d i a, x = .ref L.b ∧ y = .ref a ∧ L.ps[i]? = some a ∧ Rep t L H d ∧ ∀ H' x, Same H H' → LeadAt t H' x d.1.root d.1.cost d.1.id (Ql46.portId (i + 1)) → Q (.ref x) H'
theorem ok_Bridge_own_leader (T : Txt K mg t) : FnOk P w K mg base CX0 3 t.f_Bridge_own_leader t.fd_Bridge_own_leader ["self", "port"] (sp_Bridge_own_leader K t) := by
  refine T.F_Bridge_own_leader.okQ sc_Bridge_own_leader sp2_len (fun cdv A outer s H vs Q E hr h => ?_)
  obtain ⟨x0, x1, rfl, h⟩ := h
  obtain ⟨L, d, i, a, rfl, rfl, hi, R, k⟩ := h
  obtain ⟨dx, tr, hb⟩ := R.br
  obtain ⟨dp, lr, wc, hp⟩ := R.po i a hi
  refine ⟨_, (qb_one (qs_ret (q_make T.K_Leader (ok_Leader_init (K := K) T) (hr.mono (by decide)) rfl T.m_Leader T.b_Leader_init .nil pass0 (qac (q_fld (K := K) rfl (qv 0) rfl) (qac (q_fld (K := K) rfl (qv 0) rfl) (qac (q_fld (K := K) rfl (qv 0) rfl) (qac (q_fld (K := K) rfl (qv 1) rfl) qa_nil))))))), ?_⟩
  refine ⟨_, rfl, L.b, _, _, _, _, rfl, hb.at_, T.l_Bridge, T.a_Bridge_root, g_Bridge_root, _, rfl, L.b, _, _, _, _, rfl, hb.at_, T.l_Bridge, T.a_Bridge_cost, g_Bridge_cost, _, rfl, L.b, _, _, _, _, rfl, hb.at_, T.l_Bridge, T.a_Bridge_own_id, g_Bridge_own_id,
    _, rfl, a, _, _, _, _, rfl, hp.at_, T.l_Port, T.a_Port_own_number, g_Port_own_number, fun x dx n1 n2 ne => ⟨_, _, _, _, _, rfl, x, dx, rfl, upd_same, rfl, k _ x (made_same n1 n2) ⟨dx, upd_same⟩⟩⟩
def sp_Bridge_lead (K : PySem.W.Frag) (t : Adr) : Sp := sp2 fun x y H Q => ∃ L d i a, x = .ref L.b ∧ y = .ref a ∧ L.ps[i]? = some a ∧ Rep t L H d ∧ ∀ H', Rp t L H H' (Ql46.lead d.1 (i + 1), d.2) → Q .non H'
theorem ok_Bridge_lead (T : Txt K mg t) : FnOk P w K mg base CX0 4 t.f_Bridge_lead t.fd_Bridge_lead ["self", "port"] (sp_Bridge_lead K t) := by
  refine T.F_Bridge_lead.okQ sc_Bridge_lead sp2_len (fun cdv A outer s H vs Q E hr h => ?_)
  obtain ⟨x0, x1, rfl, h⟩ := h
  obtain ⟨L, d, i, a, rfl, rfl, hi, R, k⟩ := h
  obtain ⟨dx, tr, hb⟩ := R.br
  refine ⟨_, (qb_one (qs_fld (K := K) rfl (qv 1) (q_meth (qv 0) T.l_Bridge T.M_Bridge_own_leader (ok_Bridge_own_leader (K := K) T) (hr.mono (by decide)) T.b_Bridge_own_leader .nil pass0 (qac (qv 1) qa_nil)) rfl)), ?_⟩
  refine ⟨_, rfl, L.b, _, _, rfl, hb.at_, x_Bridge_own_leader, _, rfl, _, _, rfl, L, d, i, a, rfl, rfl, hi, R, fun H1 x s1 hl => ?_⟩
  have R1 := R.rp.same s1
  obtain ⟨dp, lr, wc, hp⟩ := R1.rep.po i a hi
  refine ⟨_, rfl, a, _, dp, _, rfl, hp.at_, T.l_Port, T.a_Port_leader, few, ?_⟩
  refine k _ ?_
  have R2 := R1.setPort (dx := dp) (lr := x) (wc := wc) hi (q := { d.1.port (i + 1) with root := d.1.root, cost := d.1.cost, bridge := d.1.id, port := Ql46.portId (i + 1) }) hl hp.way
  exact R2
end
end Tb
local macro_rules | `(tactic| walk_at "ift") => `(tactic| (dsimp only; rw [if_pos rfl]))
local macro_rules | `(tactic| walk_at "iff") => `(tactic| (dsimp only; rw [if_neg Bool.false_ne_true]))
namespace Tb
open PySem PySem.Spec PyProof.Rows L2
def mayB (b : Ql46.Bridge) (k : Nat) : Bool := !b.leads k && ((b.port k).state != 0 && decide ((b.port k).root < b.id))
def toLeadP (b : Ql46.Bridge) (k : Nat) : Prop :=
  b.leads k = true ∨ (b.port k).root ≠ b.root ∨ b.cost < (b.port k).cost ∨ (b.cost = (b.port k).cost ∧ (b.id < (b.port k).bridge ∨ (b.id = (b.port k).bridge ∧ Ql46.portId k ≤ (b.port k).port)))
instance (b : Ql46.Bridge) (k : Nat) : Decidable (toLeadP b k) := by unfold toLeadP; infer_instance
def toldAge (b : Ql46.Bridge) : Nat := if b.isRoot = true then 0 else match (b.port b.rootPort).age with
  | some a => a + 1
  | none => 0
def RootOk (b : Ql46.Bridge) : Prop := b.isRoot = false → 1 ≤ b.rootPort ∧ b.rootPort ≤ b.ports.length
section
variable {P : Program} {w : World} {K : PySem.W.Frag} {mg : Str → Option Value} {base : Heap} {t : Adr}
def sp_Bridge_may_be_chosen (K : PySem.W.Frag) (t : Adr) : Sp := sp2 fun x y H Q => ∃ L d i a, x = .ref L.b ∧ y = .ref a ∧ L.ps[i]? = some a ∧ Rep t L H d ∧ Q (.bl (mayB d.1 (i + 1))) H
theorem ok_Bridge_may_be_chosen (T : Txt K mg t) : FnOk P w K mg base CX0 2 t.f_Bridge_may_be_chosen t.fd_Bridge_may_be_chosen ["self", "port"] (sp_Bridge_may_be_chosen K t) := by
  refine T.F_Bridge_may_be_chosen.okQ sc_Bridge_may_be_chosen sp2_len (fun cdv A outer s H vs Q E hr h => ?_)
  obtain ⟨x0, x1, rfl, h⟩ := h
  obtain ⟨L, d, i, a, rfl, rfl, hi, R, k⟩ := h
  obtain ⟨dx, tr, hb⟩ := R.br
  obtain ⟨dp, lr, wc, hp⟩ := R.po i a hi
  obtain ⟨dl, hl⟩ := hp.lead
  unfold mayB at k
  refine ⟨_, (qb_one (qs_ret (q_and (q_cmp op_ne (q_fld (K := K) rfl (qv 1) rfl) (q_gi rfl T.c_OFF) (nomark _)) (q_and (q_not (q_meth (qv 0) T.l_Bridge T.M_Bridge_is_led (ok_Bridge_is_led (K := K) T) (hr.mono (by decide)) T.b_Bridge_is_led .nil pass0 (qac (qv 1) qa_nil))) (q_one (q_cmp op_lt (q_fld (K := K) rfl (q_fld (K := K) rfl (qv 1) rfl) rfl) (q_fld (K := K) rfl (qv 0) rfl) (nomark _))))))), ?_⟩
  refine ⟨_, rfl, a, _, _, _, _, rfl, hp.at_, T.l_Port, T.a_Port_state, g_Port_state, rfl, _, rfl, ?_⟩
  have e0 := int_bne (d.1.port (i + 1)).state 0
  refine ifND (fun c => ?_) (fun c => ?_)
  · have c0 : ((d.1.port (i + 1)).state != 0) = true := bne_iff_ne.mpr fun e => c (by rw [e]; rfl)
    rw [c0, Bool.true_and] at k
    refine ⟨_, rfl, L.b, _, _, rfl, hb.at_, x_Bridge_is_led, _, rfl, _, _, rfl, L, d, i, a, rfl, rfl, hi, R, _, rfl, _, rfl, ?_⟩
    refine ifB (fun c => ?_) (fun c => ?_)
    · rw [c, Bool.true_and] at k
      refine ⟨_, rfl, a, _, _, _, _, rfl, hp.at_, T.l_Port, T.a_Port_leader, g_Port_leader, lr, _, _, _, _, rfl, hl, T.l_Leader, T.a_Leader_root, g_Leader_root, _, rfl, L.b, _, _, _, _, rfl, hb.at_, T.l_Bridge, T.a_Bridge_own_id, g_Bridge_own_id, _, _, rfl, rfl, ?_⟩
      dsimp only
      rw [show decide (((d.1.port (i + 1)).root : Int) < (d.1.id : Int)) = decide ((d.1.port (i + 1)).root < d.1.id) from decide_eq_decide.mpr (by omega)]
      exact k
    · rw [c, Bool.false_and] at k
      exact k
  · have c0 : ((d.1.port (i + 1)).state != 0) = false := by
      have := V.int.inj c
      have e : (d.1.port (i + 1)).state = 0 := Int.natCast_eq_zero.mp this
      rw [e]; rfl
    rw [c0, Bool.false_and, Bool.and_false] at k
    exact k
def sp_Bridge_is_to_lead (K : PySem.W.Frag) (t : Adr) : Sp := sp2 fun x y H Q => ∃ L d i a, x = .ref L.b ∧ y = .ref a ∧ L.ps[i]? = some a ∧ Rep t L H d ∧ Q (.bl (decide (toLeadP d.1 (i + 1)))) H
theorem ok_Bridge_is_to_lead (T : Txt K mg t) : FnOk P w K mg base CX0 2 t.f_Bridge_is_to_lead t.fd_Bridge_is_to_lead ["self", "port"] (sp_Bridge_is_to_lead K t) := by
  refine T.F_Bridge_is_to_lead.okQ sc_Bridge_is_to_lead sp2_len (fun cdv A outer s H vs Q E hr h => ?_)
  obtain ⟨x0, x1, rfl, h⟩ := h
  obtain ⟨L, d, i, a, rfl, rfl, hi, R, k⟩ := h
  obtain ⟨dx, tr, hb⟩ := R.br
  obtain ⟨dp, lr, wc, hp⟩ := R.po i a hi
  obtain ⟨dl, hl⟩ := hp.lead
  refine ⟨_, (qb_cons (qs_set (i := 2) sc_Bridge_is_to_lead.nd rfl (Or.inl rfl) (q_fld (K := K) rfl (qv 1) rfl)) (qb_cons (qs_if (QW.pt (qw_or (qt_val (q_meth (qv 0) T.l_Bridge T.M_Bridge_is_led (ok_Bridge_is_led (K := K) T) (hr.mono (by decide)) T.b_Bridge_is_led .nil pass0 (qac (qv 1) qa_nil))) (qw_or1 (qt_cmp op_ne (q_fld (K := K) rfl (qv 2) rfl) (q_fld (K := K) rfl (qv 0) rfl) (nomark _))))) (qb_one (qs_ret q_bl)) qb_nil) (qb_cons (qs_if (qt_cmp op_ne (q_fld (K := K) rfl (qv 2) rfl) (q_fld (K := K) rfl (qv 0) rfl) (nomark _)) (qb_one (qs_ret (q_cmp op_gt (q_fld (K := K) rfl (qv 2) rfl) (q_fld (K := K) rfl (qv 0) rfl) (nomark _)))) qb_nil) (qb_cons (qs_if (qt_cmp op_ne (q_fld (K := K) rfl (qv 2) rfl) (q_fld (K := K) rfl (qv 0) rfl) (nomark _)) (qb_one (qs_ret (q_cmp op_gt (q_fld (K := K) rfl (qv 2) rfl) (q_fld (K := K) rfl (qv 0) rfl) (nomark _)))) qb_nil) (qb_one (qs_ret (q_cmp op_ge (q_fld (K := K) rfl (qv 2) rfl) (q_fld (K := K) rfl (qv 1) rfl) (nomark _)))))))), ?_⟩
  refine ⟨_, rfl, a, _, _, _, _, rfl, hp.at_, T.l_Port, T.a_Port_leader, g_Port_leader, ?_⟩
  refine ⟨_, rfl, L.b, _, _, rfl, hb.at_, x_Bridge_is_led, _, rfl, _, _, rfl, L, d, i, a, rfl, rfl, hi, R, _, rfl, ?_⟩
  refine ifB (fun c1 => ?_) (fun c1 => ?_)
  · walk_at "ift"
    rw [decide_eq_true (p := toLeadP d.1 (i + 1)) (.inl c1)] at k
    exact k
  refine ⟨_, rfl, lr, _, _, _, _, rfl, hl, T.l_Leader, T.a_Leader_root, g_Leader_root, _, rfl, L.b, _, _, _, _, rfl, hb.at_, T.l_Bridge, T.a_Bridge_root, g_Bridge_root, rfl, _, rfl, ?_⟩
  refine ifND (fun c2 => ?_) (fun c2 => ?_)
  · rw [decide_eq_true (p := toLeadP d.1 (i + 1)) (.inr (.inl fun e => c2 (by rw [e])))] at k
    exact k
  have c2 : (d.1.port (i + 1)).root = d.1.root := by have := V.int.inj c2; omega
  refine ⟨_, rfl, lr, _, _, _, _, rfl, hl, T.l_Leader, T.a_Leader_cost, g_Leader_cost, _, rfl, L.b, _, _, _, _, rfl, hb.at_, T.l_Bridge, T.a_Bridge_cost, g_Bridge_cost, rfl, _, rfl, ?_⟩
  refine ifND (fun c3 => ?_) (fun c3 => ?_)
  · have c3 : (d.1.port (i + 1)).cost ≠ d.1.cost := fun e => c3 (by rw [e])
    refine ⟨_, rfl, lr, _, _, _, _, rfl, hl, T.l_Leader, T.a_Leader_cost, g_Leader_cost, _, rfl, L.b, _, _, _, _, rfl, hb.at_, T.l_Bridge, T.a_Bridge_cost, g_Bridge_cost, _, _, rfl, rfl, ?_⟩
    have e : decide ((d.1.cost : Int) < ((d.1.port (i + 1)).cost : Int)) = decide (toLeadP d.1 (i + 1)) := decide_eq_decide.mpr ⟨fun z => .inr (.inr (.inl (by omega))), fun z => by
      rcases z with z | z | z | z
      · rw [c1] at z; cases z
      · exact absurd c2 z
      · omega
      · exact absurd z.1.symm c3⟩
    dsimp only
    rw [e]; exact k
  have c3 : (d.1.port (i + 1)).cost = d.1.cost := by have := V.int.inj c3; omega
  refine ⟨_, rfl, lr, _, _, _, _, rfl, hl, T.l_Leader, T.a_Leader_bridge, g_Leader_bridge, _, rfl, L.b, _, _, _, _, rfl, hb.at_, T.l_Bridge, T.a_Bridge_own_id, g_Bridge_own_id, rfl, _, rfl, ?_⟩
  refine ifND (fun c4 => ?_) (fun c4 => ?_)
  · have c4 : (d.1.port (i + 1)).bridge ≠ d.1.id := fun e => c4 (by rw [e])
    refine ⟨_, rfl, lr, _, _, _, _, rfl, hl, T.l_Leader, T.a_Leader_bridge, g_Leader_bridge, _, rfl, L.b, _, _, _, _, rfl, hb.at_, T.l_Bridge, T.a_Bridge_own_id, g_Bridge_own_id, _, _, rfl, rfl, ?_⟩
    have e : decide ((d.1.id : Int) < ((d.1.port (i + 1)).bridge : Int)) = decide (toLeadP d.1 (i + 1)) := decide_eq_decide.mpr ⟨fun z => .inr (.inr (.inr ⟨c3.symm, .inl (by omega)⟩)), fun z => by
      rcases z with z | z | z | ⟨_, z | ⟨z, _⟩⟩
      · rw [c1] at z; cases z
      · exact absurd c2 z
      · omega
      · omega
      · exact absurd z.symm c4⟩
    dsimp only
    rw [e]; exact k
  have c4 : (d.1.port (i + 1)).bridge = d.1.id := by have := V.int.inj c4; omega
  refine ⟨_, rfl, lr, _, _, _, _, rfl, hl, T.l_Leader, T.a_Leader_port, g_Leader_port, _, rfl, a, _, _, _, _, rfl, hp.at_, T.l_Port, T.a_Port_own_number, g_Port_own_number, _, _, rfl, rfl, ?_⟩
  have e : decide (((32768 + (i + 1) : Nat) : Int) ≤ ((d.1.port (i + 1)).port : Int)) = decide (toLeadP d.1 (i + 1)) := decide_eq_decide.mpr ⟨fun z => .inr (.inr (.inr ⟨c3.symm, .inr ⟨c4.symm, by unfold Ql46.portId; omega⟩⟩)), fun z => by
    rcases z with z | z | z | ⟨_, z | ⟨_, z⟩⟩
    · rw [c1] at z; cases z
    · exact absurd c2 z
    · omega
    · omega
    · unfold Ql46.portId at z; omega⟩
  dsimp only
  rw [e]; exact k
def sp_Bridge_told_age (K : PySem.W.Frag) (t : Adr) : Sp := sp1 fun x H Q => ∃ L d, x = .ref L.b ∧ Rep t L H d ∧ RootOk d.1 ∧ Q (.int (toldAge d.1 : Nat)) H
theorem ok_Bridge_told_age (T : Txt K mg t) : FnOk P w K mg base CX0 2 t.f_Bridge_told_age t.fd_Bridge_told_age ["self"] (sp_Bridge_told_age K t) := by
  refine T.F_Bridge_told_age.okQ sc_Bridge_told_age sp1_len (fun cdv A outer s H vs Q E hr h => ?_)
  obtain ⟨x0, rfl, h⟩ := h
  obtain ⟨L, d, rfl, R, ho, k⟩ := h
  obtain ⟨dx, tr, hb⟩ := R.br
  unfold toldAge at k
  refine ⟨_, (qb_cons (qs_if (qt_val (q_meth0 (qv 0) T.l_Bridge T.M_Bridge_is_root (ok_Bridge_is_root (K := K) T) (hr.mono (by decide)) T.b_Bridge_is_root .nil pass0)) (qb_one (qs_ret q_int)) qb_nil) (qb_cons (qs_set (i := 1) sc_Bridge_told_age.nd rfl (Or.inl rfl) (q_fld (K := K) rfl (q_meth (qv 0) T.l_Bridge T.M_Bridge_port_at (ok_Bridge_port_at (K := K) T) (hr.mono (by decide)) T.b_Bridge_port_at .nil pass0 (qac (q_fld (K := K) rfl (qv 0) rfl) qa_nil)) rfl)) (qb_one (qs_ret (q_ifx (qt_cmp op_isN (qv 1) q_non (nomark _)) q_int (q_op op_add (qv 1) q_int)))))), ?_⟩
  refine ⟨_, rfl, L.b, _, _, rfl, hb.at_, x_Bridge_is_root, _, rfl, L, d, rfl, R, _, rfl, ?_⟩
  refine ifB (fun c => ?_) (fun c => ?_)
  · rw [if_pos c] at k
    exact k
  rw [if_neg (by rw [c]; exact Bool.false_ne_true)] at k
  obtain ⟨h1, h2⟩ := ho c
  refine ⟨_, rfl, L.b, _, _, rfl, hb.at_, x_Bridge_port_at, _, rfl, L.b, _, _, _, _, rfl, hb.at_, T.l_Bridge, T.a_Bridge_root_port, g_Bridge_root_port, _, _, rfl, L, d, d.1.rootPort, rfl, rfl, R, fun z => ?_, fun i a ei hi => ?_⟩
  · rw [R.len] at z
    omega
  obtain ⟨dp, lr, wc, hp⟩ := R.po i a hi
  rw [← ei] at hp
  refine ⟨a, _, _, _, _, rfl, hp.at_, T.l_Port, T.a_Port_age, g_Port_age, ?_⟩
  refine ⟨_, rfl, rfl, _, rfl, ?_⟩
  cases ea : (d.1.port d.1.rootPort).age with
  | none =>
    rw [ea] at k
    refine ifD (fun _ => ?_) (fun z => absurd rfl z)
    exact k
  | some n =>
    rw [ea] at k
    refine ifD (fun z => nomatch z) (fun _ => ?_)
    exact ⟨_, rfl, _, _, rfl, rfl, k⟩
end
end Tb
local macro_rules | `(tactic| walk_at "ift") => `(tactic| (dsimp only; rw [if_pos rfl]))
local macro_rules | `(tactic| walk_at "iff") => `(tactic| (dsimp only; rw [if_neg Bool.false_ne_true]))
namespace Tb
open PySem PySem.Spec PyProof.Rows L2
theorem paired_snoc {α β : Type} {F : α → β → Prop} {a : α} {b : β} (h : F a b) : ∀ {l : List α} {m : List β}, Paired F l m → Paired F (l ++ [a]) (m ++ [b])
  | _, _, .nil => .cons h .nil
  | _, _, .cons r t => .cons r (paired_snoc h t)
section
variable {t : Adr} {L : Lay} {H H0 : Hp} {d : Ql46.Doing}
theorem Rep.send (R : Rep t L H d) {as : List Addr} (hs : H L.sl = some (.lst (as.map V.ref))) (pr : Paired (fun (x : Nat × List Nat) (a : Addr) => ∃ f, H a = some (.tup [.int (x.1 : Nat), .ref f]) ∧ H f = some (.lst (bts x.2)) ∧ f ≠ L.sl) d.2 as)
    {p f : Addr} {k : Nat} {fr : List Nat} (hp : H p = some (.tup [.int (k : Nat), .ref f])) (hf : H f = some (.lst (bts fr))) (hn : f ≠ L.sl) : Rep t L (upd H L.sl (.lst (as.map V.ref ++ [V.ref p]))) (d.1, d.2 ++ [(k, fr)]) := by
  have kp : ∀ b o, H b = some o → b ≠ L.sl → upd H L.sl (.lst (as.map V.ref ++ [V.ref p])) b = some o := fun b o e hb => by rw [upd_ne hb]; exact e
  have ks : ∀ b o, H b = some o → Nat.beq (shp o) 100 = false → upd H L.sl (.lst (as.map V.ref ++ [V.ref p])) b = some o := fun b o e hb => kp b o e (ne_shp e hs hb)
  refine ⟨?_, kp _ _ R.pl R.ne, R.nd, R.len, fun j c hj => ?_, ?_, ?_, ?_, R.ne⟩
  · obtain ⟨dx, tr, h⟩ := R.br
    exact ⟨dx, tr, ks _ _ h.at_ rfl, let ⟨dd, e⟩ := h.times; ⟨dd, ks _ _ e rfl⟩⟩
  · obtain ⟨dx', lr', wc', h'⟩ := R.po j c hj
    exact ⟨dx', lr', wc', ks _ _ h'.at_ rfl, let ⟨dd, e⟩ := h'.lead; ⟨dd, ks _ _ e rfl⟩, h'.way⟩
  · obtain ⟨dd, e⟩ := R.ad
    exact ⟨dd, ks _ _ e rfl⟩
  · exact R.tab.keep (fun _ e => ks _ _ e rfl) (fun _ _ e => ks _ _ e rfl)
  · refine ⟨as ++ [p], ?_, paired_snoc ⟨f, ks _ _ hp rfl, kp _ _ hf hn, hn⟩ (paired_imp pr fun _ _ ⟨f', e1, e2, e3⟩ => ⟨f', ks _ _ e1 rfl, kp _ _ e2 e3, e3⟩)⟩
    rw [List.map_append]
    exact upd_same
theorem Rp.send (R : Rp t L H0 H d) {as : List Addr} (hs : H L.sl = some (.lst (as.map V.ref))) (pr : Paired (fun (x : Nat × List Nat) (a : Addr) => ∃ f, H a = some (.tup [.int (x.1 : Nat), .ref f]) ∧ H f = some (.lst (bts x.2)) ∧ f ≠ L.sl) d.2 as)
    {p f : Addr} {k : Nat} {fr : List Nat} (hp : H p = some (.tup [.int (k : Nat), .ref f])) (hf : H f = some (.lst (bts fr))) (hn : f ≠ L.sl) : Rp t L H0 (upd H L.sl (.lst (as.map V.ref ++ [V.ref p]))) (d.1, d.2 ++ [(k, fr)]) :=
  ⟨R.rep.send hs pr hp hf hn, fun x o e m => by rw [upd_ne (fun z => m (.inr (.inr (.inr (.inl z)))))]; exact R.kp x o e m⟩
theorem paired_len {α β : Type} {F : α → β → Prop} : ∀ {l : List α} {m : List β}, Paired F l m → l.length = m.length
  | _, _, .nil => rfl
  | _, _, .cons _ t => congrArg (· + 1) (paired_len t)
end
def saysOf (b : Ql46.Bridge) (k : Nat) : Ql46.Says := ⟨b.root, b.cost, b.id, Ql46.portId k, toldAge b, b.maxAge, b.hello, b.delay, b.change, (b.port k).known⟩
theorem tell_eq (k : Nat) (d : Ql46.Doing) : Ql46.tell k d = if (d.1.port k).hold.isSome = true then (d.1.set k { d.1.port k with pending := true }, d.2)
    else if toldAge d.1 < d.1.maxAge then (d.1.set k { d.1.port k with known := false, pending := false, hold := some 0 }, d.2 ++ [(k, frm d.1.id (Ql46.bytesOf (saysOf d.1 k)))]) else d := by
  unfold Ql46.tell
  dsimp only
  split
  · rfl
  · have e : (if d.1.isRoot = true then 0 else match (d.1.port d.1.rootPort).age with
      | some a => a + 1
      | none => 0) = toldAge d.1 := rfl
    rw [framed_frm]
    rfl
section
variable {P : Program} {w : World} {K : PySem.W.Frag} {mg : Str → Option Value} {base : Heap} {t : Adr}
def sp_Bridge_send (K : PySem.W.Frag) (t : Adr) : Sp := sp3 fun x y z H Q => ∃ L d f fr, ∃ n : Nat, x = .ref L.b ∧ y = .int (n : Nat) ∧ z = .ref f ∧ Rep t L H d ∧ H f = some (.lst (bts fr)) ∧ f ≠ L.sl ∧ d.2.length < 100000 ∧ ∀ H', Rp t L H H' (d.1, d.2 ++ [(n, fr)]) → Q .non H'
theorem ok_Bridge_send (T : Txt K mg t) : FnOk P w K mg base CX0 1 t.f_Bridge_send t.fd_Bridge_send ["self", "place", "frame"] (sp_Bridge_send K t) := by
  refine T.F_Bridge_send.okQ sc_Bridge_send sp3_len (fun cdv A outer s H vs Q E hr h => ?_)
  obtain ⟨x0, x1, x2, rfl, h⟩ := h
  obtain ⟨L, d, f, fr, n, rfl, rfl, rfl, R, hf, hn, hz, k⟩ := h
  obtain ⟨dx, tr, hb⟩ := R.br
  obtain ⟨as, hs, pr⟩ := R.sent
  refine ⟨_, (qb_one (qs_expr (q_bm (K := K) rfl PySem.F.plainAttrs_list PySem.F.slot_list_append PySem.F.type_list_append mt_append (q_fld (K := K) rfl (qv 0) rfl) (qac (q_tup (qac (qv 1) (qac (qv 2) qa_nil))) qa_nil)))), ?_⟩
  refine ⟨_, rfl, L.b, _, _, _, _, rfl, hb.at_, T.l_Bridge, T.a_Bridge_sent, g_Bridge_sent, .inl ⟨rfl, _, SqL.of hs⟩, _, rfl, _, rfl, sz, fun p hp' => ⟨L.sl, _, _, rfl, rfl, Same.new hp' _ _ hs, ?_, k _ ?_⟩⟩
  · rw [List.length_map, ← paired_len pr]
    exact Nat.lt_of_lt_of_le hz (by decide)
  · have S := Same.new (o := .tup [.int (n : Int), .ref f]) hp'
    exact (R.rp.same S).send (k := n) (S _ _ hs) (paired_imp pr fun _ _ ⟨f', e1, e2, e3⟩ => ⟨f', S _ _ e1, S _ _ e2, e3⟩) upd_same (S _ _ hf) hn
def sp_Bridge_tell (K : PySem.W.Frag) (t : Adr) : Sp := sp2 fun x y H Q => ∃ L d i a, x = .ref L.b ∧ y = .ref a ∧ L.ps[i]? = some a ∧ Rep t L H d ∧ RootOk d.1 ∧ d.2.length < 100000 ∧ ∀ H', Rp t L H H' (Ql46.tell (i + 1) d) → Q .non H'
theorem ok_Bridge_tell (T : Txt K mg t) : FnOk P w K mg base CX0 4 t.f_Bridge_tell t.fd_Bridge_tell ["self", "port"] (sp_Bridge_tell K t) := by
  refine T.F_Bridge_tell.okQ sc_Bridge_tell sp2_len (fun cdv A outer s H vs Q E hr h => ?_)
  obtain ⟨x0, x1, rfl, h⟩ := h
  obtain ⟨L, d, i, a, rfl, rfl, hi, R, ho, hz, k⟩ := h
  obtain ⟨dx, tr, hb⟩ := R.br
  obtain ⟨dp, lr, wc, hp⟩ := R.po i a hi
  rw [tell_eq] at k
  refine ⟨_, (qb_cons (qs_if (qt_cmp op_notN (q_fld (K := K) rfl (qv 1) rfl) q_non (nomark _)) (qb_cons (qs_fld (K := K) rfl (qv 1) q_bl rfl) (qb_one qs_retN)) qb_nil) (qb_cons (qs_set (i := 2) sc_Bridge_tell.nd rfl (Or.inl rfl) (q_meth0 (qv 0) T.l_Bridge T.M_Bridge_told_age (ok_Bridge_told_age (K := K) T) (hr.mono (by decide)) T.b_Bridge_told_age .nil pass0)) (qb_cons (qs_if (qt_cmp op_ge (qv 2) (q_fld (K := K) rfl (q_fld (K := K) rfl (qv 0) rfl) rfl) (nomark _)) (qb_one qs_retN) qb_nil) (qb_cons (qs_set (i := 3) sc_Bridge_tell.nd rfl (Or.inl rfl) (q_make T.K_Said (ok_Said_init (K := K) T) (hr.mono (by decide)) rfl T.m_Said T.b_Said_init .nil pass0 (qac (q_meth (qv 0) T.l_Bridge T.M_Bridge_own_leader (ok_Bridge_own_leader (K := K) T) (hr.mono (by decide)) T.b_Bridge_own_leader .nil pass0 (qac (qv 1) qa_nil)) (qac (qv 2) (qac (q_fld (K := K) rfl (qv 0) rfl) (qac (q_fld (K := K) rfl (qv 0) rfl) (qac (q_fld (K := K) rfl (qv 1) rfl) qa_nil))))))) (qb_cons (qs_expr (q_meth (qv 0) T.l_Bridge T.M_Bridge_send (ok_Bridge_send (K := K) T) (hr.mono (by decide)) T.b_Bridge_send .nil pass0 (qac (q_fld (K := K) rfl (qv 1) rfl) (qac (q_call (ok_said_frame (K := K) T) (hr.mono (by decide)) rfl T.m_said_frame T.F_said_frame.kp T.b_said_frame .nil pass0 (qac (q_fld (K := K) rfl (qv 0) rfl) (qac (qv 3) qa_nil))) qa_nil)))) (qb_cons (qs_expr (q_meth0 (qv 1) T.l_Port T.M_Port_forget_notes (ok_Port_forget_notes (K := K) T) (hr.mono (by decide)) T.b_Port_forget_notes .nil pass0)) (qb_one (qs_fld (K := K) rfl (qv 1) q_int rfl)))))))), ?_⟩
  refine ⟨_, rfl, a, _, _, _, _, rfl, hp.at_, T.l_Port, T.a_Port_hold, g_Port_hold, rfl, _, rfl, ?_⟩
  refine ifND (fun c => ?_) (fun c => ?_)
  · have c1 : (d.1.port (i + 1)).hold.isSome = true := by
      cases e : (d.1.port (i + 1)).hold with
      | none => rw [e] at c; exact absurd rfl c
      | some n => rfl
    rw [if_pos c1] at k
    refine ⟨_, rfl, a, _, dp, _, rfl, hp.at_, T.l_Port, T.a_Port_to_tell, few, ?_⟩
    exact k _ (R.rp.setPort (dx := dp) (lr := lr) (wc := wc) hi (q := { d.1.port (i + 1) with pending := true }) hp.lead hp.way)
  have c1 : ¬ (d.1.port (i + 1)).hold.isSome = true := by
    cases e : (d.1.port (i + 1)).hold with
    | none => exact fun z => nomatch z
    | some n => rw [e] at c; exact nomatch c
  rw [if_neg c1] at k
  refine ⟨_, rfl, L.b, _, _, rfl, hb.at_, x_Bridge_told_age, _, rfl, L, d, rfl, R, ho, ?_⟩
  obtain ⟨dt, ht⟩ := hb.times
  refine ⟨_, rfl, _, rfl, L.b, _, _, _, _, rfl, hb.at_, T.l_Bridge, T.a_Bridge_times, g_Bridge_times, tr, _, _, _, _, rfl, ht, T.l_Times, T.a_Times_oldest, g_Times_oldest, _, _, rfl, rfl, _, rfl, ?_⟩
  refine ifD (fun c2 => ?_) (fun c2 => ?_)
  · rw [if_neg (by omega)] at k
    exact k _ R.rp
  rw [if_pos (by omega)] at k
  refine ⟨_, rfl, L.b, _, _, rfl, hb.at_, x_Bridge_own_leader, _, rfl, _, _, rfl, L, d, i, a, rfl, rfl, hi, R, fun H1 x s1 hl => ?_⟩
  refine ⟨_, rfl, _, rfl, L.b, _, _, _, _, rfl, s1 _ _ hb.at_, T.l_Bridge, T.a_Bridge_times, g_Bridge_times, _, rfl, L.b, _, _, _, _, rfl, s1 _ _ hb.at_, T.l_Bridge, T.a_Bridge_change_there, g_Bridge_change_there, _, rfl, a, _, _, _, _, rfl, s1 _ _ hp.at_, T.l_Port, T.a_Port_to_call_known, g_Port_to_call_known,
    fun z dz n1 n2 ne => ⟨_, _, _, _, _, _, rfl, z, dz, rfl, upd_same, rfl, ?_⟩⟩
  have s2 := s1.trans (made_same (o1 := .own z) (o2 := .ins t.C_Said dz []) (o3 := .ins t.C_Said dz (fl_Said (.ref x) (.int (toldAge d.1 : Nat)) (.ref tr) (.bl d.1.change) (.bl (d.1.port (i + 1)).known))) n1 n2)
  have hS : SaidAt t (upd (upd (upd H1 dz (.own z)) z (.ins t.C_Said dz [])) z (.ins t.C_Said dz (fl_Said (.ref x) (.int (toldAge d.1 : Nat)) (.ref tr) (.bl d.1.change) (.bl (d.1.port (i + 1)).known)))) z (saysOf d.1 (i + 1)) x tr :=
    ⟨⟨dz, upd_same⟩, hl.same (made_same n1 n2), ⟨dt, s2 _ _ ht⟩⟩
  refine ⟨_, rfl, L.b, _, _, rfl, s2 _ _ hb.at_, x_Bridge_send, _, rfl, a, _, _, _, _, rfl, s2 _ _ hp.at_, T.l_Port, T.a_Port_place, g_Port_place, _, rfl, L.b, _, _, _, _, rfl, s2 _ _ hb.at_, T.l_Bridge, T.a_Bridge_own_id, g_Bridge_own_id, _, rfl, _, _, rfl, d.1.id, z, saysOf d.1 (i + 1), x, tr, rfl, rfl, hS, fun H3 f s3 f3 e3 => ?_⟩
  have R3 := (R.rp.same s2).same s3
  have hsl : f ≠ L.sl := by
    obtain ⟨as, q, _⟩ := (R.same s2).sent
    exact (ne_of_none q f3).symm
  refine ⟨_, _, _, rfl, L, d, f, _, i + 1, rfl, rfl, rfl, R3.rep, e3, hsl, hz, fun H4 R4 => ?_⟩
  have R4 := R3.trans R4
  obtain ⟨dp4, lr4, wc4, hp4⟩ := R4.rep.po i a hi
  refine ⟨_, rfl, a, _, _, rfl, hp4.at_, x_Port_forget_notes, _, rfl, a, dp4, _, rfl, hp4.at_, Nat.le_of_ble_eq_true rfl, ?_⟩
  refine ⟨_, rfl, a, _, dp4, _, rfl, upd_same, T.l_Port, T.a_Port_hold, few, ?_⟩
  rw [upd_upd]
  refine k _ ?_
  exact R4.setPort (dx := dp4) (lr := lr4) (wc := wc4) hi (q := { d.1.port (i + 1) with known := false, pending := false, hold := some 0 }) hp4.lead hp4.way
end
end Tb
namespace Tb
open Ql46 (Doing Bridge)
def itr (f : Nat → Doing → Doing) : Nat → Doing → Doing
  | 0, d => d
  | i + 1, d => f (i + 1) (itr f i d)
theorem fold_itr (f : Nat → Doing → Doing) : ∀ (n : Nat) (d : Doing), ((List.range n).map fun i => i + 1).foldl (fun d k => f k d) d = itr f n d
  | 0, d => rfl
  | n + 1, d => by
    rw [List.range_succ, List.map_append, List.foldl_append, fold_itr f n d]
    rfl
theorem set_len (b : Bridge) (k : Nat) (q : Ql46.Port) : (b.set k q).ports.length = b.ports.length := by unfold Ql46.Bridge.set; dsimp only; rw [List.length_set]
def OffP (q : Ql46.Port) : Prop := q.state = 0 → q.age = none ∧ q.wait = none ∧ q.hold = none ∧ q.pending = false ∧ q.known = false
def WtP (q : Ql46.Port) : Prop := q.wait = none ∨ q.state = 2 ∨ q.state = 3
structure Good (b : Bridge) : Prop where
  root : RootOk b
  st : ∀ k, (b.port k).state ≤ 4
  few : b.ports.length ≤ 16
  off : ∀ k, OffP (b.port k)
  wt : ∀ k, WtP (b.port k)
theorem Good.of {b b' : Bridge} (g : Good b) (h1 : b'.id = b.id) (h2 : b'.root = b.root) (h3 : b'.rootPort = b.rootPort) (h4 : b'.ports = b.ports) : Good b' := by
  refine ⟨fun z => ?_, fun k => ?_, by rw [h4]; exact g.few, fun k => ?_, fun k => ?_⟩
  · have := g.root (by unfold Ql46.Bridge.isRoot at z ⊢; rw [h1, h2] at z; exact z)
    rw [h3, h4]; exact this
  · have := g.st k
    unfold Ql46.Bridge.port at this ⊢
    rw [h4]; exact this
  · have := g.off k
    unfold Ql46.Bridge.port at this ⊢
    rw [h4]; exact this
  · have := g.wt k
    unfold Ql46.Bridge.port at this ⊢
    rw [h4]; exact this
theorem port_of_set (b : Bridge) (k j : Nat) (q : Ql46.Port) : (b.set k q).port j = b.port j ∨ (b.set k q).port j = q := by
  unfold Ql46.Bridge.set Ql46.Bridge.port
  dsimp only
  rw [List.getD_eq_getElem?_getD, List.getD_eq_getElem?_getD, List.getElem?_set]
  split
  · split
    · exact .inr rfl
    · left
      rw [List.getElem?_eq_none (by omega)]
  · exact .inl rfl
theorem OffP.on {q : Ql46.Port} (h : q.state ≠ 0) : OffP q := fun e => absurd e h
theorem Good.set {b : Bridge} (g : Good b) (k : Nat) {q : Ql46.Port} (h : q.state ≤ 4) (ho : OffP q) (hw : WtP q := by first | exact Good.wt (by assumption) _ | exact .inl rfl | exact .inr (.inl rfl) | exact .inr (.inr rfl)) : Good (b.set k q) := by
  refine ⟨fun z => ?_, fun j => ?_, by rw [set_len]; exact g.few, fun j => ?_, fun j => ?_⟩
  · have := g.root z
    rw [set_len]; exact this
  · rcases port_of_set b k j q with e | e
    · rw [e]; exact g.st j
    · rw [e]; exact h
  · rcases port_of_set b k j q with e | e
    · rw [e]; exact g.off j
    · rw [e]; exact ho
  · rcases port_of_set b k j q with e | e
    · rw [e]; exact g.wt j
    · rw [e]; exact hw
structure Ok (c : Nat) (d d' : Doing) : Prop where
  good : Good d.1 → Good d'.1
  len : d'.1.ports.length = d.1.ports.length
  few : d'.2.length ≤ d.2.length + c
  tab : d'.1.table = d.1.table
theorem Ok.refl (d : Doing) : Ok 0 d d := ⟨fun g => g, rfl, Nat.le_refl _, rfl⟩
theorem Ok.mono {c c' : Nat} {d d' : Doing} (h : Ok c d d') (hc : c ≤ c') : Ok c' d d' := ⟨h.good, h.len, Nat.le_trans h.few (by omega), h.tab⟩
theorem Ok.trans {c c' : Nat} {d d' e : Doing} (h : Ok c d d') (h' : Ok c' d' e) : Ok (c + c') d e := ⟨fun g => h'.good (h.good g), h'.len.trans h.len, by have := h.few; have := h'.few; omega, h'.tab.trans h.tab⟩
theorem Ok.itr {f : Nat → Doing → Doing} {c : Nat} (h : ∀ k d, Ok c d (f k d)) : ∀ (n : Nat) (d : Doing), Ok (n * c) d (itr f n d)
  | 0, d => ⟨fun g => g, rfl, by simp [Tb.itr], rfl⟩
  | n + 1, d => by
    have := (Ok.itr h n d).trans (h (n + 1) (Tb.itr f n d))
    rw [Nat.succ_mul]; exact this
theorem Ok.itrG {f : Nat → Doing → Doing} {c : Nat} (h : ∀ k d, Good d.1 → Ok c d (f k d)) : ∀ (n : Nat) (d : Doing), Good d.1 → Ok (n * c) d (Tb.itr f n d)
  | 0, d, _ => ⟨fun g => g, rfl, by simp [Tb.itr], rfl⟩
  | n + 1, d, g => by
    have h1 := Ok.itrG h n d g
    have := h1.trans (h (n + 1) (Tb.itr f n d) (h1.good g))
    rw [Nat.succ_mul]; exact this
theorem ok_set (d : Doing) (k : Nat) (q : Ql46.Port) (h : Good d.1 → q.state ≤ 4) (ho : Good d.1 → OffP q) (hw : Good d.1 → WtP q := by first | exact fun g => g.wt _ | exact fun _ => .inl rfl | exact fun _ => .inr (.inl rfl) | exact fun _ => .inr (.inr rfl)) : Ok 0 d (d.1.set k q, d.2) := ⟨fun g => g.set k (h g) (ho g) (hw g), set_len _ _ _, Nat.le_refl _, rfl⟩
theorem ok_tell (k : Nat) (d : Doing) (hn : (d.1.port k).state ≠ 0) : Ok 1 d (Ql46.tell k d) := by
  rw [tell_eq]
  split
  · exact (ok_set d k { d.1.port k with pending := true } (fun g => g.st k) fun _ => OffP.on hn).mono (Nat.zero_le _)
  · split
    · refine ⟨fun g => g.set k (g.st k) (OffP.on hn), set_len _ _ _, ?_, rfl⟩
      rw [List.length_append]; exact Nat.le_refl _
    · exact (Ok.refl d).mono (by first | exact Nat.zero_le _ | decide)
def tellTurn (k : Nat) (d : Doing) : Doing := if d.1.leads k = true ∧ (d.1.port k).state ≠ 0 then Ql46.tell k d else d
theorem tellAll_itr (d : Doing) : Ql46.tellAll d = itr tellTurn d.1.ports.length d := fold_itr tellTurn _ d
theorem ok_tellTurn (k : Nat) (d : Doing) : Ok 1 d (tellTurn k d) := by
  unfold tellTurn
  split
  · rename_i h
    exact ok_tell k d h.2
  · exact (Ok.refl d).mono (by first | exact Nat.zero_le _ | decide)
theorem ok_ask (d : Doing) : Ok 1 d (Ql46.ask d) := ⟨fun g => g, rfl, by unfold Ql46.ask; rw [List.length_append]; exact Nat.le_refl _, rfl⟩
theorem ok_changed (d : Doing) : Ok 1 d (Ql46.changed d) := by
  unfold Ql46.changed
  dsimp only
  split
  · exact ⟨fun g => g.of rfl rfl rfl rfl, rfl, Nat.le_succ _, rfl⟩
  · split
    · refine ⟨fun g => g.of rfl rfl rfl rfl, rfl, ?_, rfl⟩
      unfold Ql46.ask; rw [List.length_append]; exact Nat.le_refl _
    · exact (Ok.refl d).mono (by first | exact Nat.zero_le _ | decide)
theorem ok_forward (b : Bridge) (k : Nat) (s : Ql46.Sent) : Ok 0 (b, s) (Ql46.forward b k, s) := by
  unfold Ql46.forward
  dsimp only
  split
  · exact ok_set (b, s) k _ (fun _ => sz) fun _ => OffP.on (Nat.succ_ne_zero _)
  · exact Ok.refl _
theorem ok_block (k : Nat) (d : Doing) : Ok 1 d (Ql46.block k d) := by
  unfold Ql46.block
  dsimp only
  split
  · exact (Ok.refl d).mono (by first | exact Nat.zero_le _ | decide)
  · split
    · exact (ok_changed d).trans (ok_set (Ql46.changed d) k _ (fun _ => sz) fun _ => OffP.on (Nat.succ_ne_zero _))
    · exact (ok_set d k _ (fun _ => sz) fun _ => OffP.on (Nat.succ_ne_zero _)).mono (by first | exact Nat.zero_le _ | decide)
def stateTurn (k : Nat) (d : Doing) : Doing :=
  if (d.1.port k).state = 0 then d
  else if k = d.1.rootPort then (Ql46.forward (d.1.set k { d.1.port k with pending := false, known := false }) k, d.2)
  else if d.1.leads k = true then (Ql46.forward (d.1.set k { d.1.port k with age := none }) k, d.2)
  else Ql46.block k (d.1.set k { d.1.port k with pending := false, known := false }, d.2)
theorem states_itr (d : Doing) : Ql46.states d = itr stateTurn d.1.ports.length d := fold_itr stateTurn _ d
theorem ok_stateTurn (k : Nat) (d : Doing) : Ok 1 d (stateTurn k d) := by
  unfold stateTurn
  by_cases hn : (d.1.port k).state = 0
  · rw [if_pos hn]
    exact (Ok.refl d).mono (by decide)
  · rw [if_neg hn]
    split
    · exact ((ok_set d k { d.1.port k with pending := false, known := false } (fun g => g.st k) fun _ => OffP.on hn).trans (ok_forward _ k _)).mono (by decide)
    · split
      · exact ((ok_set d k { d.1.port k with age := none } (fun g => g.st k) fun _ => OffP.on hn).trans (ok_forward _ k _)).mono (by decide)
      · exact ((ok_set d k { d.1.port k with pending := false, known := false } (fun g => g.st k) fun _ => OffP.on hn).trans (ok_block k _)).mono (by decide)
theorem ok_states (d : Doing) : Ok d.1.ports.length d (Ql46.states d) := by
  rw [states_itr]
  have := Ok.itr ok_stateTurn d.1.ports.length d
  rw [Nat.mul_one] at this; exact this
theorem ok_lead (b : Bridge) (k : Nat) (s : Ql46.Sent) : Ok 0 (b, s) (Ql46.lead b k, s) := ok_set (b, s) k { b.port k with root := b.root, cost := b.cost, bridge := b.id, port := Ql46.portId k } (fun g => g.st k) fun g => g.off k
def leadTurn (k : Nat) (d : Doing) : Doing := if toLeadP d.1 k then (Ql46.lead d.1 k, d.2) else d
theorem ok_leadTurn (k : Nat) (d : Doing) : Ok 0 d (leadTurn k d) := by
  unfold leadTurn
  split
  · exact ok_lead d.1 k d.2
  · exact Ok.refl d
theorem chooseLed_itr (b : Bridge) (s : Ql46.Sent) : (Ql46.chooseLed b, s) = itr leadTurn b.ports.length (b, s) := by
  have h : ∀ (l : List Nat) (c : Bridge), (l.foldl (fun b k => if toLeadP b k then Ql46.lead b k else b) c, s) = l.foldl (fun d k => leadTurn k d) (c, s) := by
    intro l
    induction l with
    | nil => intro c; rfl
    | cons k r ih =>
      intro c
      rw [List.foldl_cons, List.foldl_cons, ih]
      congr 1
      unfold leadTurn
      split <;> rfl
  have e := h ((List.range b.ports.length).map fun i => i + 1) b
  rw [fold_itr] at e
  rw [← e]
  rfl
theorem ok_chooseLed (b : Bridge) (s : Ql46.Sent) : Ok 0 (b, s) (Ql46.chooseLed b, s) := by
  rw [chooseLed_itr]
  have := Ok.itr ok_leadTurn b.ports.length (b, s)
  rw [Nat.mul_zero] at this; exact this
end Tb
local macro_rules | `(tactic| walk_at "ift") => `(tactic| (dsimp only; rw [if_pos rfl]))
local macro_rules | `(tactic| walk_at "iff") => `(tactic| (dsimp only; rw [if_neg Bool.false_ne_true]))
namespace Tb
open PySem PySem.Spec PyProof.Rows L2
theorem changed_port (d : Ql46.Doing) (k : Nat) : (Ql46.changed d).1.port k = d.1.port k := by
  unfold Ql46.changed
  dsimp only
  split
  · rfl
  · split <;> rfl
section
variable {P : Program} {w : World} {K : PySem.W.Frag} {mg : Str → Option Value} {base : Heap} {t : Adr}
def sp_Bridge_ask (K : PySem.W.Frag) (t : Adr) : Sp := sp1 fun x H Q => ∃ L d, x = .ref L.b ∧ Rep t L H d ∧ d.2.length < 100000 ∧ ∀ H', Rp t L H H' (Ql46.ask d) → Q .non H'
theorem ok_Bridge_ask (T : Txt K mg t) : FnOk P w K mg base CX0 4 t.f_Bridge_ask t.fd_Bridge_ask ["self"] (sp_Bridge_ask K t) := by
  refine T.F_Bridge_ask.okQ sc_Bridge_ask sp1_len (fun cdv A outer s H vs Q E hr h => ?_)
  obtain ⟨x0, rfl, h⟩ := h
  obtain ⟨L, d, rfl, R, hz, k⟩ := h
  obtain ⟨dx, tr, hb⟩ := R.br
  refine ⟨_, (qb_one (qs_expr (q_meth (qv 0) T.l_Bridge T.M_Bridge_send (ok_Bridge_send (K := K) T) (hr.mono (by decide)) T.b_Bridge_send .nil pass0 (qac (q_fld (K := K) rfl (qv 0) rfl) (qac (q_call (ok_changed_frame (K := K) T) (hr.mono (by decide)) rfl T.m_changed_frame T.F_changed_frame.kp T.b_changed_frame .nil pass0 (qac (q_fld (K := K) rfl (qv 0) rfl) qa_nil)) qa_nil))))), ?_⟩
  refine ⟨_, rfl, L.b, _, _, rfl, hb.at_, x_Bridge_send, _, rfl, L.b, _, _, _, _, rfl, hb.at_, T.l_Bridge, T.a_Bridge_root_port, g_Bridge_root_port, _, rfl, L.b, _, _, _, _, rfl, hb.at_, T.l_Bridge, T.a_Bridge_own_id, g_Bridge_own_id, _, rfl, d.1.id, rfl, fun H1 f s1 f1 e1 => ?_⟩
  have hsl : f ≠ L.sl := by
    obtain ⟨as, q, _⟩ := R.sent
    exact (ne_of_none q f1).symm
  refine ⟨_, _, _, rfl, L, d, f, _, d.1.rootPort, rfl, rfl, rfl, R.same s1, e1, hsl, hz, fun H2 R2 => k _ ?_⟩
  have e : Ql46.ask d = (d.1, d.2 ++ [(d.1.rootPort, frm d.1.id [0, 0, 0, 128])]) := by unfold Ql46.ask; rw [framed_frm]
  rw [e]
  exact (R.rp.same s1).trans R2
def sp_Bridge_start_asking (K : PySem.W.Frag) (t : Adr) : Sp := sp1 fun x H Q => ∃ L d, x = .ref L.b ∧ Rep t L H d ∧ d.2.length < 100000 ∧ ∀ H', Rp t L H H' (Ql46.ask ({ d.1 with asking := some 0 }, d.2)) → Q .non H'
theorem ok_Bridge_start_asking (T : Txt K mg t) : FnOk P w K mg base CX0 5 t.f_Bridge_start_asking t.fd_Bridge_start_asking ["self"] (sp_Bridge_start_asking K t) := by
  refine T.F_Bridge_start_asking.okQ sc_Bridge_start_asking sp1_len (fun cdv A outer s H vs Q E hr h => ?_)
  obtain ⟨x0, rfl, h⟩ := h
  obtain ⟨L, d, rfl, R, hz, k⟩ := h
  obtain ⟨dx, tr, hb⟩ := R.br
  refine ⟨_, (qb_cons (qs_fld (K := K) rfl (qv 0) q_int rfl) (qb_one (qs_expr (q_meth0 (qv 0) T.l_Bridge T.M_Bridge_ask (ok_Bridge_ask (K := K) T) (hr.mono (by decide)) T.b_Bridge_ask .nil pass0)))), ?_⟩
  refine ⟨_, rfl, L.b, _, dx, _, rfl, hb.at_, T.l_Bridge, T.a_Bridge_asking, few, ?_⟩
  have R1 := R.rp.setBr (b := { d.1 with asking := some 0 }) (dx := dx) (tr := tr) rfl rfl hb.times
  refine ⟨_, rfl, L.b, _, _, rfl, upd_same, x_Bridge_ask, _, rfl, L, _, rfl, R1.rep, hz, fun H2 R2 => k _ (R1.trans R2)⟩
def sp_Bridge_find_change (K : PySem.W.Frag) (t : Adr) : Sp := sp1 fun x H Q => ∃ L d, x = .ref L.b ∧ Rep t L H d ∧ RootOk d.1 ∧ d.2.length < 100000 ∧ ∀ H', Rp t L H H' (Ql46.changed d) → Q .non H'
theorem ok_Bridge_find_change (T : Txt K mg t) : FnOk P w K mg base CX0 6 t.f_Bridge_find_change t.fd_Bridge_find_change ["self"] (sp_Bridge_find_change K t) := by
  refine T.F_Bridge_find_change.okQ sc_Bridge_find_change sp1_len (fun cdv A outer s H vs Q E hr h => ?_)
  obtain ⟨x0, rfl, h⟩ := h
  obtain ⟨L, d, rfl, R, ho, hz, k⟩ := h
  obtain ⟨dx, tr, hb⟩ := R.br
  unfold Ql46.changed at k
  dsimp only at k
  refine ⟨_, (qb_one (qs_if (qt_val (q_meth0 (qv 0) T.l_Bridge T.M_Bridge_is_root (ok_Bridge_is_root (K := K) T) (hr.mono (by decide)) T.b_Bridge_is_root .nil pass0)) (qb_cons (qs_fld (K := K) rfl (qv 0) q_bl rfl) (qb_cons (qs_fld (K := K) rfl (qv 0) q_bl rfl) (qb_one (qs_fld (K := K) rfl (qv 0) q_int rfl)))) (qb_one (qs_if (qt_not (qt_val (q_fld (K := K) rfl (qv 0) rfl))) (qb_cons (qs_fld (K := K) rfl (qv 0) q_bl rfl) (qb_one (qs_expr (q_meth0 (qv 0) T.l_Bridge T.M_Bridge_start_asking (ok_Bridge_start_asking (K := K) T) (hr.mono (by decide)) T.b_Bridge_start_asking .nil pass0)))) qb_nil)))), ?_⟩
  refine ⟨_, rfl, L.b, _, _, rfl, hb.at_, x_Bridge_is_root, _, rfl, L, d, rfl, R, _, rfl, ?_⟩
  refine ifB (fun c => ?_) (fun c => ?_)
  · rw [if_pos c] at k
    refine ⟨_, rfl, L.b, _, dx, _, rfl, hb.at_, T.l_Bridge, T.a_Bridge_change_found, few, ?_⟩
    refine ⟨_, rfl, L.b, _, dx, _, rfl, upd_same, T.l_Bridge, T.a_Bridge_change_there, few, ?_⟩
    refine ⟨_, rfl, L.b, _, dx, _, rfl, upd_same, T.l_Bridge, T.a_Bridge_changing, few, ?_⟩
    rw [upd_upd, upd_upd]
    exact k _ (R.rp.setBr (b := { d.1 with found := true, change := true, changing := some 0 }) (dx := dx) (tr := tr) rfl rfl hb.times)
  · rw [if_neg (by rw [c]; exact Bool.false_ne_true)] at k
    refine ⟨_, rfl, L.b, _, _, _, _, rfl, hb.at_, T.l_Bridge, T.a_Bridge_change_found, g_Bridge_change_found, _, rfl, ?_⟩
    refine ifB (fun c2 => ?_) (fun c2 => ?_)
    · have c2 : d.1.found = false := by
        cases e : d.1.found
        · rfl
        · rw [e] at c2; cases c2
      rw [if_pos c2] at k
      refine ⟨_, rfl, L.b, _, dx, _, rfl, hb.at_, T.l_Bridge, T.a_Bridge_change_found, few, ?_⟩
      have R1 := R.rp.setBr (b := { d.1 with found := true }) (dx := dx) (tr := tr) rfl rfl hb.times
      refine ⟨_, rfl, L.b, _, _, rfl, upd_same, x_Bridge_start_asking, _, rfl, L, _, rfl, R1.rep, hz, fun H2 R2 => k _ (R1.trans R2)⟩
    · have c2 : ¬ d.1.found = false := by
        intro e
        rw [e] at c2; cases c2
      rw [if_neg c2] at k
      exact k _ R.rp
def sp_Bridge_block (K : PySem.W.Frag) (t : Adr) : Sp := sp2 fun x y H Q => ∃ L d i a, x = .ref L.b ∧ y = .ref a ∧ L.ps[i]? = some a ∧ Rep t L H d ∧ Good d.1 ∧ (d.1.port (i + 1)).state ≠ 0 ∧ d.2.length < 100000 ∧ ∀ H', Rp t L H H' (Ql46.block (i + 1) d) → Q .non H'
theorem ok_Bridge_block (T : Txt K mg t) : FnOk P w K mg base CX0 7 t.f_Bridge_block t.fd_Bridge_block ["self", "port"] (sp_Bridge_block K t) := by
  refine T.F_Bridge_block.okQ sc_Bridge_block sp2_len (fun cdv A outer s H vs Q E hr h => ?_)
  obtain ⟨x0, x1, rfl, h⟩ := h
  obtain ⟨L, d, i, a, rfl, rfl, hi, R, g, hn, hz, k⟩ := h
  obtain ⟨dx, tr, hb⟩ := R.br
  obtain ⟨dp, lr, wc, hp⟩ := R.po i a hi
  have g4 := g.st (i + 1)
  unfold Ql46.block at k
  dsimp only at k
  refine ⟨_, (qb_cons (qs_if (qt_cmp op_eq (q_fld (K := K) rfl (qv 1) rfl) (q_gi rfl T.c_BLOCKING) (nomark _)) (qb_one qs_retN) qb_nil) (qb_cons (qs_if (QW.pt (qw_or (qt_cmp op_eq (q_fld (K := K) rfl (qv 1) rfl) (q_gi rfl T.c_LEARNING) (nomark _)) (qw_or1 (qt_cmp op_eq (q_fld (K := K) rfl (qv 1) rfl) (q_gi rfl T.c_FORWARDING) (nomark _))))) (qb_one (qs_expr (q_meth0 (qv 0) T.l_Bridge T.M_Bridge_find_change (ok_Bridge_find_change (K := K) T) (hr.mono (by decide)) T.b_Bridge_find_change .nil pass0))) qb_nil) (qb_cons (qs_fld (K := K) rfl (qv 1) (q_gi rfl T.c_BLOCKING) rfl) (qb_one (qs_fld (K := K) rfl (qv 1) q_non rfl))))), ?_⟩
  refine ⟨_, rfl, a, _, _, _, _, rfl, hp.at_, T.l_Port, T.a_Port_state, g_Port_state, rfl, _, rfl, ?_⟩
  rw [show (V.int 1) = V.int ((1 : Nat) : Int) from rfl, int_beq]
  refine ifB (fun c => ?_) (fun c => ?_)
  · rw [if_pos (Nat.le_of_eq (eq_of_beq c))] at k
    exact k _ R.rp
  have c : (d.1.port (i + 1)).state ≠ 1 := fun e => by rw [e] at c; cases c
  have c1 : ¬ (d.1.port (i + 1)).state ≤ 1 := fun e => by
    rcases Nat.le_one_iff_eq_zero_or_eq_one.mp e with e | e
    · exact hn e
    · exact c e
  rw [if_neg c1] at k
  have fin : ∀ (D : Ends) (H1 : Hp) (d1 : Ql46.Doing), Rp t L H H1 d1 → (d1.1.port (i + 1)).state ≠ 0 → (∀ H', Rp t L H H' (d1.1.set (i + 1) { d1.1.port (i + 1) with state := 1, wait := none }, d1.2) → D.nx [some (.ref L.b), some (.ref a)] H') →
      tSeq (sFld K (tVar 1) (tC (.int 1)) "state") (sFld K (tVar 1) (tC .non) "wait") D [some (.ref L.b), some (.ref a)] H1 := fun D H1 d1 R1 hs1 k1 => by
    obtain ⟨dp, lr, wc, hp⟩ := R1.rep.po i a hi
    refine ⟨_, rfl, a, _, dp, _, rfl, hp.at_, T.l_Port, T.a_Port_state, few, ?_⟩
    refine ⟨_, rfl, a, _, dp, _, rfl, upd_same, T.l_Port, T.a_Port_wait, few, ?_⟩
    rw [upd_upd]
    exact k1 _ (R1.setPort (dx := dp) (lr := lr) (wc := wc) hi (q := { d1.1.port (i + 1) with state := 1, wait := none }) hp.lead fun _ => hp.way hs1)
  have e3 := int_beq (d.1.port (i + 1)).state 3
  have e4 := int_beq (d.1.port (i + 1)).state 4
  have find : 3 ≤ (d.1.port (i + 1)).state → ∀ D : Ends, (∀ H', Rp t L H H' ((Ql46.changed d).1.set (i + 1) { (Ql46.changed d).1.port (i + 1) with state := 1, wait := none }, (Ql46.changed d).2) → D.nx [some (.ref L.b), some (.ref a)] H') →
      tDrop (tMeth t.C_Bridge "find_change" (sp_Bridge_find_change K t) [] E0 (tVar 0) tNil) { D with nx := tSeq (sFld K (tVar 1) (tC (.int 1)) "state") (sFld K (tVar 1) (tC .non) "wait") D } [some (.ref L.b), some (.ref a)] H := fun h3 D k1 => by
    refine ⟨_, rfl, L.b, _, _, rfl, hb.at_, x_Bridge_find_change, _, rfl, L, d, rfl, R, g.root, hz, fun H1 R1 => ?_⟩
    refine fin D H1 _ R1 ?_ k1
    rw [changed_port]; exact hn
  refine ⟨_, rfl, a, _, _, _, _, rfl, hp.at_, T.l_Port, T.a_Port_state, g_Port_state, rfl, _, rfl, ?_⟩
  rw [show (V.int 3) = V.int ((3 : Nat) : Int) from rfl, e3]
  refine ifB (fun c2 => ?_) (fun c2 => ?_)
  · walk_at "ift"
    have c3 : 3 ≤ (d.1.port (i + 1)).state := Nat.le_of_eq (eq_of_beq c2).symm
    rw [if_pos c3] at k
    exact find c3 _ k
  refine ⟨_, rfl, a, _, _, _, _, rfl, hp.at_, T.l_Port, T.a_Port_state, g_Port_state, rfl, _, rfl, ?_⟩
  rw [show (V.int 4) = V.int ((4 : Nat) : Int) from rfl, e4]
  refine ifB (fun c3 => ?_) (fun c3 => ?_)
  · have c4 : 3 ≤ (d.1.port (i + 1)).state := by rw [eq_of_beq c3]; decide
    rw [if_pos c4] at k
    exact find c4 _ k
  · have c4 : ¬ 3 ≤ (d.1.port (i + 1)).state := fun h3 => by
      have h1 : (d.1.port (i + 1)).state ≠ 3 := fun e => by rw [e] at c2; cases c2
      have h2 : (d.1.port (i + 1)).state ≠ 4 := fun e => by rw [e] at c3; cases c3
      generalize (d.1.port (i + 1)).state = s at *
      exact h2 (Nat.le_antisymm g4 (Nat.lt_of_le_of_ne h3 (Ne.symm h1)))
    rw [if_neg c4] at k
    exact fin _ H d R.rp hn k
end
end Tb
local macro_rules | `(tactic| walk_at "ift") => `(tactic| (dsimp only; rw [if_pos rfl]))
local macro_rules | `(tactic| walk_at "iff") => `(tactic| (dsimp only; rw [if_neg Bool.false_ne_true]))
namespace Tb
open PySem PySem.Spec PyProof.Rows L2
theorem set_set (b : Ql46.Bridge) (k : Nat) (q q' : Ql46.Port) : (b.set k q).set k q' = b.set k q' := by
  unfold Ql46.Bridge.set
  dsimp only
  rw [List.set_set]
theorem forward_set {b : Ql46.Bridge} {i : Nat} (h : i < b.ports.length) (q : Ql46.Port) : Ql46.forward (b.set (i + 1) q) (i + 1) = if q.state = 1 then b.set (i + 1) { q with state := 2, wait := some 0 } else b.set (i + 1) q := by
  unfold Ql46.forward
  dsimp only
  rw [port_set_self h, set_set]
section
variable {P : Program} {w : World} {K : PySem.W.Frag} {mg : Str → Option Value} {base : Heap} {t : Adr}
theorem Rep.ilt {L : Lay} {H : Hp} {d : Ql46.Doing} (R : Rep t L H d) {i : Nat} {a : Addr} (hi : L.ps[i]? = some a) : i < d.1.ports.length := by rw [← R.len]; exact List.ix_lt hi
theorem r_forward {L : Lay} {H H0 : Hp} {d : Ql46.Doing} {i : Nat} {a dx lr : Addr} {wc : Nat} {q : Ql46.Port} {D : Ends} {σ : L2.St} (T : Txt K mg t) (R : Rp t L H0 H d) (hi : L.ps[i]? = some a) (hl : LeadAt t H lr q.root q.cost q.bridge q.port) (hw : wc = q.pathCost)
    (hs : σ[1]? = some (some (.ref a))) (k : ∀ H', Rp t L H0 H' (Ql46.forward (d.1.set (i + 1) q) (i + 1), d.2) → D.nx σ H') :
    tDrop (tMeth t.C_Port "start_forwarding" (sp_Port_start_forwarding K t) [] E0 (tVar 1) tNil) D σ (upd H a (.ins t.C_Port dx (poF (i + 1) q lr wc))) := by
  refine ⟨_, hs, a, _, _, rfl, upd_same, x_Port_start_forwarding, _, rfl, a, dx, _, (q.state : Nat), rfl, upd_same, Nat.le_of_ble_eq_true rfl, g_Port_state, fun c => ?_, fun c => ?_⟩
  · have c : q.state = 1 := Int.ofNat.inj c
    rw [upd_upd]
    rw [forward_set (R.rep.ilt hi), if_pos c] at k
    exact k _ (R.setPort (dx := dx) (lr := lr) (wc := wc) hi (q := { q with state := 2, wait := some 0 }) hl fun _ => hw)
  · have c : ¬ q.state = 1 := fun e => c (by rw [e]; rfl)
    rw [forward_set (R.rep.ilt hi), if_neg c] at k
    exact k _ (R.setPort (dx := dx) (lr := lr) (wc := wc) hi (q := q) hl fun _ => hw)
def sp_Bridge_set_state (K : PySem.W.Frag) (t : Adr) : Sp := sp2 fun x y H Q => ∃ L d i a, x = .ref L.b ∧ y = .ref a ∧ L.ps[i]? = some a ∧ Rep t L H d ∧ Good d.1 ∧ (d.1.port (i + 1)).state ≠ 0 ∧ d.2.length < 100000 ∧ ∀ H', Rp t L H H' (stateTurn (i + 1) d) → Q .non H'
theorem ok_Bridge_set_state (T : Txt K mg t) : FnOk P w K mg base CX0 8 t.f_Bridge_set_state t.fd_Bridge_set_state ["self", "port"] (sp_Bridge_set_state K t) := by
  refine T.F_Bridge_set_state.okQ sc_Bridge_set_state sp2_len (fun cdv A outer s H vs Q E hr h => ?_)
  obtain ⟨x0, x1, rfl, h⟩ := h
  obtain ⟨L, d, i, a, rfl, rfl, hi, R, g, hn, hz, k⟩ := h
  obtain ⟨dx, tr, hb⟩ := R.br
  obtain ⟨dp, lr, wc, hp⟩ := R.po i a hi
  unfold stateTurn at k
  rw [if_neg hn] at k
  refine ⟨_, (qb_one (qs_if (qt_cmp op_eq (q_fld (K := K) rfl (qv 1) rfl) (q_fld (K := K) rfl (qv 0) rfl) (nomark _)) (qb_cons (qs_expr (q_meth0 (qv 1) T.l_Port T.M_Port_forget_notes (ok_Port_forget_notes (K := K) T) (hr.mono (by decide)) T.b_Port_forget_notes .nil pass0)) (qb_one (qs_expr (q_meth0 (qv 1) T.l_Port T.M_Port_start_forwarding (ok_Port_start_forwarding (K := K) T) (hr.mono (by decide)) T.b_Port_start_forwarding .nil pass0)))) (qb_one (qs_if (qt_val (q_meth (qv 0) T.l_Bridge T.M_Bridge_is_led (ok_Bridge_is_led (K := K) T) (hr.mono (by decide)) T.b_Bridge_is_led .nil pass0 (qac (qv 1) qa_nil))) (qb_cons (qs_fld (K := K) rfl (qv 1) q_non rfl) (qb_one (qs_expr (q_meth0 (qv 1) T.l_Port T.M_Port_start_forwarding (ok_Port_start_forwarding (K := K) T) (hr.mono (by decide)) T.b_Port_start_forwarding .nil pass0)))) (qb_cons (qs_expr (q_meth0 (qv 1) T.l_Port T.M_Port_forget_notes (ok_Port_forget_notes (K := K) T) (hr.mono (by decide)) T.b_Port_forget_notes .nil pass0)) (qb_one (qs_expr (q_meth (qv 0) T.l_Bridge T.M_Bridge_block (ok_Bridge_block (K := K) T) (hr.mono (by decide)) T.b_Bridge_block .nil pass0 (qac (qv 1) qa_nil))))))))), ?_⟩
  refine ⟨_, rfl, a, _, _, _, _, rfl, hp.at_, T.l_Port, T.a_Port_place, g_Port_place, _, rfl, L.b, _, _, _, _, rfl, hb.at_, T.l_Bridge, T.a_Bridge_root_port, g_Bridge_root_port, rfl, _, rfl, ?_⟩
  rw [int_beq]
  refine ifB (fun c => ?_) (fun c => ?_)
  · rw [if_pos (eq_of_beq c)] at k
    refine ⟨_, rfl, a, _, _, rfl, hp.at_, x_Port_forget_notes, _, rfl, a, dp, _, rfl, hp.at_, Nat.le_of_ble_eq_true rfl, ?_⟩
    exact r_forward (q := { d.1.port (i + 1) with pending := false, known := false }) T R.rp hi hp.lead (hp.way hn) rfl k
  rw [if_neg (fun e => by rw [e, beq_self_eq_true] at c; cases c)] at k
  refine ⟨_, rfl, L.b, _, _, rfl, hb.at_, x_Bridge_is_led, _, rfl, _, _, rfl, L, d, i, a, rfl, rfl, hi, R, _, rfl, ?_⟩
  refine ifB (fun c2 => ?_) (fun c2 => ?_)
  · rw [if_pos c2] at k
    refine ⟨_, rfl, a, _, dp, _, rfl, hp.at_, T.l_Port, T.a_Port_age, few, ?_⟩
    exact r_forward (q := { d.1.port (i + 1) with age := none }) T R.rp hi hp.lead (hp.way hn) rfl k
  · rw [if_neg (by rw [c2]; exact Bool.false_ne_true)] at k
    refine ⟨_, rfl, a, _, _, rfl, hp.at_, x_Port_forget_notes, _, rfl, a, dp, _, rfl, hp.at_, Nat.le_of_ble_eq_true rfl, ?_⟩
    have R1 := R.rp.setPort (dx := dp) (lr := lr) (wc := wc) hi (q := { d.1.port (i + 1) with pending := false, known := false }) hp.lead hp.way
    obtain ⟨dx1, tr1, hb1⟩ := R1.rep.br
    refine ⟨_, rfl, L.b, _, _, rfl, hb1.at_, x_Bridge_block, _, rfl, _, _, rfl, L, _, i, a, rfl, rfl, hi, R1.rep, g.set (i + 1) (g.st (i + 1)) (OffP.on hn), ?_, hz, fun H2 R2 => k _ (R1.trans R2)⟩
    show ((d.1.set (i + 1) { d.1.port (i + 1) with pending := false, known := false }).port (i + 1)).state ≠ 0
    rw [port_set_self (R.ilt hi)]
    exact hn
theorem r_ports {L : Lay} {H : Hp} {d : Ql46.Doing} {D : Ends} {tb : TS} {v0 : Option V} {c : Nat} (T : Txt K mg t) (f : Nat → Ql46.Doing → Ql46.Doing) (hf : ∀ k d, Good d.1 → Ok c d (f k d)) (R : Rep t L H d) (g : Good d.1) (hz : d.2.length + 16 * c < 100000)
    (turn : ∀ (i : Nat) (a : Addr) (H1 : Hp) (d1 : Ql46.Doing) (E : Ends), L.ps[i]? = some a → Rep t L H1 d1 → Good d1.1 → d1.2.length < 100000 → d1.2.length ≤ d.2.length + 16 * c → (∀ H2, Rp t L H1 H2 (f (i + 1) d1) → E.nx [some (.ref L.b), some (.ref a)] H2) → tb E [some (.ref L.b), some (.ref a)] H1)
    (hd : ∀ v H', Rp t L H H' (itr f d.1.ports.length d) → D.nx [some (.ref L.b), v] H') :
    tFor (iList K (tFld K (tVar 0) "ports")) (gName 1) tb D [some (.ref L.b), v0] H := by
  obtain ⟨dx, tr, hb⟩ := R.br
  refine ⟨_, rfl, L.b, _, _, _, _, rfl, hb.at_, T.l_Bridge, T.a_Bridge_ports, g_Bridge_ports, L.pl, rfl, ⟨_, SqL.of R.pl⟩, for_list (K := K) (a := L.pl) (xs := L.ps.map V.ref) (fun i σ H' => ∃ v, σ = [some (.ref L.b), v] ∧ Rp t L H H' (itr f i d)) ⟨_, rfl, R.rp⟩ (fun i σ H' _ ⟨_, _, q⟩ => SqL.of q.rep.pl) ?_ ?_⟩
  · rintro i y σ H' hi ⟨v, rfl, R1⟩
    rw [List.getElem?_map] at hi
    cases e : L.ps[i]? with
    | none => rw [e] at hi; cases hi
    | some a =>
      rw [e] at hi
      cases hi
      have hok := Ok.itrG hf i d g
      have hlt : i < 16 := Nat.lt_of_lt_of_le (R.ilt e) g.few
      refine turn i a H' _ _ e R1.rep (hok.good g) (by
        have h1 := hok.few
        have h2 : i * c ≤ 16 * c := Nat.mul_le_mul_right c (Nat.le_of_lt hlt)
        omega) ?_ fun H2 R2 => ⟨_, rfl, R1.trans R2⟩
      have h1 := hok.few
      have h2 : i * c ≤ 16 * c := Nat.mul_le_mul_right c (Nat.le_of_lt hlt)
      omega
  · rintro σ H' ⟨v, rfl, R1⟩
    rw [List.length_map, R.len] at R1
    exact hd v H' R1
def sp_Bridge_set_states (K : PySem.W.Frag) (t : Adr) : Sp := sp1 fun x H Q => ∃ L d, x = .ref L.b ∧ Rep t L H d ∧ Good d.1 ∧ d.2.length < 90000 ∧ ∀ H', Rp t L H H' (Ql46.states d) → Q .non H'
theorem ok_Bridge_set_states (T : Txt K mg t) : FnOk P w K mg base CX0 9 t.f_Bridge_set_states t.fd_Bridge_set_states ["self"] (sp_Bridge_set_states K t) := by
  refine T.F_Bridge_set_states.okQ sc_Bridge_set_states sp1_len (fun cdv A outer s H vs Q E hr h => ?_)
  obtain ⟨x0, rfl, h⟩ := h
  obtain ⟨L, d, rfl, R, g, hz, k⟩ := h
  rw [states_itr] at k
  refine ⟨_, (qb_one (qs_for PassesOwn.never rfl (qi_list (K := K) rfl (q_fld (K := K) rfl (qv 0) rfl)) (qg_name (i := 1) sc_Bridge_set_states.nd rfl (Or.inl rfl)) (qb_one (qs_if (qt_cmp op_ne (q_fld (K := K) rfl (qv 1) rfl) (q_gi rfl T.c_OFF) (nomark _)) (qb_one (qs_expr (q_meth (qv 0) T.l_Bridge T.M_Bridge_set_state (ok_Bridge_set_state (K := K) T) (hr.mono (by decide)) T.b_Bridge_set_state .nil pass0 (qac (qv 1) qa_nil)))) qb_nil)))), ?_⟩
  refine r_ports T stateTurn (fun k d _ => ok_stateTurn k d) R g (by omega) (fun i a H1 d1 E hi R1 g1 hz1 _ kE => ?_) fun v H' R' => k H' R'
  obtain ⟨dx, tr, hb⟩ := R1.br
  obtain ⟨dp, lr, wc, hp⟩ := R1.po i a hi
  refine ⟨_, rfl, a, _, _, _, _, rfl, hp.at_, T.l_Port, T.a_Port_state, g_Port_state, rfl, _, rfl, ?_⟩
  rw [show (V.int 0) = V.int ((0 : Nat) : Int) from rfl, int_bne]
  refine ifB (fun c => ?_) (fun c => ?_)
  · exact ⟨_, rfl, L.b, _, _, rfl, hb.at_, x_Bridge_set_state, _, rfl, _, _, rfl, L, d1, i, a, rfl, rfl, hi, R1, g1, bne_iff_ne.mp c, hz1, kE⟩
  · have c : (d1.1.port (i + 1)).state = 0 := by
      cases e : ((d1.1.port (i + 1)).state != 0)
      · exact bne_eq_false_iff_eq.mp e
      · rw [e] at c; cases c
    unfold stateTurn at kE
    rw [if_pos c] at kE
    exact kE _ R1.rp
def sp_Bridge_all_tell (K : PySem.W.Frag) (t : Adr) : Sp := sp1 fun x H Q => ∃ L d, x = .ref L.b ∧ Rep t L H d ∧ Good d.1 ∧ d.2.length < 90000 ∧ ∀ H', Rp t L H H' (Ql46.tellAll d) → Q .non H'
theorem ok_Bridge_all_tell (T : Txt K mg t) : FnOk P w K mg base CX0 5 t.f_Bridge_all_tell t.fd_Bridge_all_tell ["self"] (sp_Bridge_all_tell K t) := by
  refine T.F_Bridge_all_tell.okQ sc_Bridge_all_tell sp1_len (fun cdv A outer s H vs Q E hr h => ?_)
  obtain ⟨x0, rfl, h⟩ := h
  obtain ⟨L, d, rfl, R, g, hz, k⟩ := h
  rw [tellAll_itr] at k
  refine ⟨_, (qb_one (qs_for PassesOwn.never rfl (qi_list (K := K) rfl (q_fld (K := K) rfl (qv 0) rfl)) (qg_name (i := 1) sc_Bridge_all_tell.nd rfl (Or.inl rfl)) (qb_one (qs_if (QW.pt (qw_and (qt_cmp op_ne (q_fld (K := K) rfl (qv 1) rfl) (q_gi rfl T.c_OFF) (nomark _)) (qw_and1 (qt_val (q_meth (qv 0) T.l_Bridge T.M_Bridge_is_led (ok_Bridge_is_led (K := K) T) (hr.mono (by decide)) T.b_Bridge_is_led .nil pass0 (qac (qv 1) qa_nil)))))) (qb_one (qs_expr (q_meth (qv 0) T.l_Bridge T.M_Bridge_tell (ok_Bridge_tell (K := K) T) (hr.mono (by decide)) T.b_Bridge_tell .nil pass0 (qac (qv 1) qa_nil)))) qb_nil)))), ?_⟩
  refine r_ports T tellTurn (fun k d _ => ok_tellTurn k d) R g (by omega) (fun i a H1 d1 E hi R1 g1 hz1 _ kE => ?_) fun v H' R' => k H' R'
  obtain ⟨dx, tr, hb⟩ := R1.br
  obtain ⟨dp, lr, wc, hp⟩ := R1.po i a hi
  refine ⟨_, rfl, a, _, _, _, _, rfl, hp.at_, T.l_Port, T.a_Port_state, g_Port_state, rfl, _, rfl, ?_⟩
  rw [show (V.int 0) = V.int ((0 : Nat) : Int) from rfl, int_bne]
  unfold tellTurn at kE
  refine ifB (fun c => ?_) (fun c => ?_)
  · refine ⟨_, rfl, L.b, _, _, rfl, hb.at_, x_Bridge_is_led, _, rfl, _, _, rfl, L, d1, i, a, rfl, rfl, hi, R1, _, rfl, ?_⟩
    refine ifB (fun c2 => ?_) (fun c2 => ?_)
    · rw [if_pos ⟨c2, bne_iff_ne.mp c⟩] at kE
      exact ⟨_, rfl, L.b, _, _, rfl, hb.at_, x_Bridge_tell, _, rfl, _, _, rfl, L, d1, i, a, rfl, rfl, hi, R1, g1.root, hz1, kE⟩
    · rw [if_neg (fun z => by rw [z.1] at c2; cases c2)] at kE
      exact kE _ R1.rp
  · walk_at "iff"
    rw [if_neg (fun z => by rw [bne_iff_ne.mpr z.2] at c; cases c)] at kE
    exact kE _ R1.rp
def sp_Bridge_become_root (K : PySem.W.Frag) (t : Adr) : Sp := sp1 fun x H Q => ∃ L d, x = .ref L.b ∧ Rep t L H d ∧ Good d.1 ∧ d.1.isRoot = true ∧ d.2.length < 80000 ∧ ∀ H', Rp t L H H' (Ql46.becameRoot false d) → Q .non H'
theorem ok_Bridge_become_root (T : Txt K mg t) : FnOk P w K mg base CX0 7 t.f_Bridge_become_root t.fd_Bridge_become_root ["self"] (sp_Bridge_become_root K t) := by
  refine T.F_Bridge_become_root.okQ sc_Bridge_become_root sp1_len (fun cdv A outer s H vs Q E hr h => ?_)
  obtain ⟨x0, rfl, h⟩ := h
  obtain ⟨L, d, rfl, R, g, hr', hz, k⟩ := h
  obtain ⟨dx, tr, hb⟩ := R.br
  unfold Ql46.becameRoot at k
  rw [if_pos ⟨hr', rfl⟩] at k
  refine ⟨_, (qb_cons (qs_fld (K := K) rfl (qv 0) (q_call0 (ok_standard_times (K := K) T) (hr.mono (by decide)) rfl T.m_standard_times T.F_standard_times.kp T.b_standard_times .nil pass0) rfl) (qb_cons (qs_fld (K := K) rfl (qv 0) q_non rfl) (qb_cons (qs_expr (q_meth0 (qv 0) T.l_Bridge T.M_Bridge_find_change (ok_Bridge_find_change (K := K) T) (hr.mono (by decide)) T.b_Bridge_find_change .nil pass0)) (qb_cons (qs_expr (q_meth0 (qv 0) T.l_Bridge T.M_Bridge_all_tell (ok_Bridge_all_tell (K := K) T) (hr.mono (by decide)) T.b_Bridge_all_tell .nil pass0)) (qb_one (qs_fld (K := K) rfl (qv 0) q_int rfl)))))), ?_⟩
  refine ⟨rfl, fun H1 x s1 ht => ?_⟩
  refine ⟨_, rfl, L.b, _, dx, _, rfl, s1 _ _ hb.at_, T.l_Bridge, T.a_Bridge_times, few, ?_⟩
  refine ⟨_, rfl, L.b, _, dx, _, rfl, upd_same, T.l_Bridge, T.a_Bridge_asking, few, ?_⟩
  rw [upd_upd]
  have R1 := (R.rp.same s1).setBr (b := { d.1 with maxAge := Ql46.MAXAGE, hello := Ql46.HELLO, delay := Ql46.DELAY, asking := none }) (dx := dx) (tr := x) rfl rfl ht
  have g1 : Good ({ d.1 with maxAge := Ql46.MAXAGE, hello := Ql46.HELLO, delay := Ql46.DELAY, asking := none } : Ql46.Bridge) := g.of rfl rfl rfl rfl
  refine ⟨_, rfl, L.b, _, _, rfl, upd_same, x_Bridge_find_change, _, rfl, L, _, rfl, R1.rep, g1.root, by show d.2.length < _; omega, fun H2 R2 => ?_⟩
  have R2 := R1.trans R2
  have ok2 := ok_changed (({ d.1 with maxAge := Ql46.MAXAGE, hello := Ql46.HELLO, delay := Ql46.DELAY, asking := none } : Ql46.Bridge), d.2)
  obtain ⟨dx2, tr2, hb2⟩ := R2.rep.br
  refine ⟨_, rfl, L.b, _, _, rfl, hb2.at_, x_Bridge_all_tell, _, rfl, L, _, rfl, R2.rep, ok2.good g1, Nat.lt_of_le_of_lt ok2.few (by show d.2.length + 1 < _; omega), fun H3 R3 => ?_⟩
  have R3 := R2.trans R3
  obtain ⟨dx3, tr3, hb3⟩ := R3.rep.br
  refine ⟨_, rfl, L.b, _, dx3, _, rfl, hb3.at_, T.l_Bridge, T.a_Bridge_telling, few, ?_⟩
  exact k _ (R3.setBr (b := { (Ql46.tellAll (Ql46.changed (({ d.1 with maxAge := Ql46.MAXAGE, hello := Ql46.HELLO, delay := Ql46.DELAY, asking := none } : Ql46.Bridge), d.2))).1 with telling := some 0 }) (dx := dx3) (tr := tr3) rfl rfl hb3.times)
end
end Tb
namespace Tb
open PySem PySem.Spec PyProof.Rows L2
def bestIx (key : Nat → List Int) : Nat → Nat
  | 0 => 0
  | n + 1 => if HT.lexLt (key (n + 1)) (key (bestIx key n)) = true then n + 1 else bestIx key n
section
variable {X : Cx} {pins : List (Addr × Obj)} {σ : L2.St} {k : Nat} {f : Addr} {fd : FuncData} {ps : List Str} {sp : Sp}
theorem run_in1 {H : Hp} {s : Shared} {Q : VK} {us : List Value} {vs : List V} (F : FnOk X.prog X.w X.K X.mg X.base CX0 k f fd ps sp) (hr : Room (k + 1) X.A) (hb : Binds X.K fd ps []) (I : Inv X pins σ H s) (r : Vals vs us) (h : sp vs H Q E0) :
    wpAny (model X.prog X.w) X.A.in1 (call (.ref f) us) (EP X pins σ Q) (fun _ _ => False) s := by
  have hl : us.length = ps.length := by rw [← r.length]; exact F.len _ _ _ _ h
  have hbb := hb s us I.kIn (by rw [List.append_nil]; exact hl)
  rw [List.append_nil] at hbb
  refine wpAny_call (codeAny_mono (F.run X.A.in1 X.stack s H ⟨us, []⟩ us vs Q E0 hr.in1 I.env0.in1 hbb r h) fun r s' hq => ?_)
  cases r with
  | error e => exact hq
  | ok fl =>
    cases fl with
    | ret u => exact I.after hq
    | next => exact False.elim hq
    | brk => exact False.elim hq
    | cont => exact False.elim hq
theorem min_loop {xs : List V} {key : Nat → List Int} {l I S : Addr} {H0 : Hp} {Q : VK} (F : FnOk X.prog X.w X.K X.mg X.base CX0 k f fd ps sp) (hr : Room (k + 1) X.A) (hb : Binds X.K fd ps []) (hc : X.calm = true) (hIS : I ≠ S) (hlI : l ≠ I)
    (fI : ∀ H' : Hp, H' I = none → FpOk X pins H' I) (fS : ∀ H' : Hp, H' S = none → FpOk X pins H' S) (hl0 : H0 l = some (.lst xs))
    (turn : ∀ (i : Nat) (x : V), xs[i]? = some x → ∀ H', Same H0 H' → sp [x] H' (fun v H'' => ∃ a, v = .ref a ∧ H'' a = some (.tup ((key i).map V.int)) ∧ Same H' H'') E0)
    (fin : ∀ x H', xs[bestIx key (xs.length - 1)]? = some x → Same H0 H' → Q x H') :
    ∀ (r j : Nat) (H : Hp) (s : Shared) (vb : Value) (kb : Addr) (xb : V) (c : Nat), xs.length - (j + 1) = r → j + 1 ≤ xs.length → Inv X pins σ H s → Same H0 H → H I = none → H S = none →
      s.heap.IsListIter I l (j + 1) → s.heap.get? S = some (seqObj "list" #[vb, .ref kb] c) → xs[bestIx key j]? = some xb → RelV xb vb → H kb = some (.tup ((key (bestIx key j)).map V.int)) →
      codeAny (model X.prog X.w) X.A (.builtin "min.loop" ⟨[.ref I, .ref f, .ref S], [(Str.ofString "default", .none)]⟩) (fun r s' => match r with | .ok (.ret v) => EP X pins σ Q v s' | .ok _ => False | .error e => X.xe e s') s := by
  have hname : (toString "min" ++ toString ".loop" : String) = "min.loop" := by decide
  intro r
  induction r with
  | zero =>
    intro j H s vb kb xb c hr' hj I0 S0 nI nS hit hS hxb rb hkb
    have hin : j + 1 = xs.length := by omega
    obtain ⟨its, rv, pl, hz⟩ := I0.list (SqL.of (S0 _ _ hl0))
    have hsz : its.toArray.size = xs.length := by rw [List.size_toArray]; exact rv.length.symm
    have W := Walks.list (prog := X.prog) (w := X.w) (A := X.A.in1) (I0.ok.hd hc) I l hlI its.toArray
    refine codeAny_builtin PySem.F.entry_min_loop ?_
    rw [Around.under_plainId PySem.F.plain_min_loop _]
    show wpAny _ X.A.in1 (seqItems? (.ref S) >>= _) _ _ _
    refine wpAny_bind (wpAny_seqItems hS rfl ?_)
    show wpAny _ X.A.in1 (tryCatch (pyNext (.ref I)) _ >>= _) _ _ _
    refine wpAny_bind (wpAny_tryCatch (W.done _ _ _ ⟨by rw [hsz, ← hin]; exact hit, pl.isList⟩ fun h' tk' hk' => ?_))
    obtain ⟨f0, f1, f2, f3, f4, f5⟩ := fI H nI
    have I1 : Inv X pins σ H { s with heap := h', toks := tk' } := I0.turned (fun b o hb e => hk' b o (by simpa using hb) e) f0 f1 f3 f4 f5
    have hS' := hk' S _ (by simpa using hIS.symm) hS
    have s1 := Heap.SameBut.update h' S (Obj.mapSeq fun _ => (#[] : Array Value))
    show wpAny _ X.A.in1 (updateSeq S (fun _ => #[]) >>= _) _ _ _
    refine wpAny_bind ?_
    refine wpAny_updateSeq hS' rfl (wpAny_bind (wpAny_letGo (wpAny_pure ?_)))
    obtain ⟨g0, g1, g2, g3, g4, g5⟩ := fS H nS
    refine ⟨xb, H, I1.turned (t' := tk') (fun b o hb e => (s1.2 b hb).trans e) g0 g1 g3 g4 g5, rb, fin xb H ?_ S0⟩
    have e : xs.length - 1 = j := by omega
    rw [e]; exact hxb
  | succ r ih =>
    intro j H s vb kb xb c hr' hj I0 S0 nI nS hit hS hxb rb hkb
    have hlt : j + 1 < xs.length := by omega
    obtain ⟨its, rv, pl, hz⟩ := I0.list (SqL.of (S0 _ _ hl0))
    have hsz : its.toArray.size = xs.length := by rw [List.size_toArray]; exact rv.length.symm
    have W := Walks.list (prog := X.prog) (w := X.w) (A := X.A.in1) (I0.ok.hd hc) I l hlI its.toArray
    refine codeAny_builtin PySem.F.entry_min_loop ?_
    rw [Around.under_plainId PySem.F.plain_min_loop _]
    show wpAny _ X.A.in1 (seqItems? (.ref S) >>= _) _ _ _
    refine wpAny_bind (wpAny_seqItems hS rfl ?_)
    show wpAny _ X.A.in1 (tryCatch (pyNext (.ref I)) _ >>= _) _ _ _
    refine wpAny_bind (wpAny_tryCatch (W.item (j + 1) _ _ _ (by rw [hsz]; exact hlt) ⟨hit, pl.isList⟩ fun v h' tk' hP hst' hk' => ?_))
    have hv : its[j + 1]? = some v := by simpa using hP
    obtain ⟨x, hx⟩ : ∃ x, xs[j + 1]? = some x := ⟨_, List.getElem?_eq_getElem hlt⟩
    obtain ⟨u, hu, ru⟩ := rv.get hx
    rw [hv] at hu
    cases hu
    obtain ⟨oI', hoI', hoc, hod⟩ := id hst'.1
    obtain ⟨f0, f1, f2, f3, f4, f5⟩ := fI H nI
    have I1 : Inv X pins σ H { s with heap := h', toks := tk' } := I0.turned (fun b o hb e => hk' b o (by simpa using hb) e) f0 f1 f3 f4 f5
    have hS' := hk' S _ (by simpa using hIS.symm) hS
    obtain ⟨g0, g1, g2, g3, g4, g5⟩ := fS H nS
    have I2 : Inv X (pins ++ [(I, oI'), (S, seqObj "list" #[vb, .ref kb] c)]) σ H { s with heap := h', toks := tk' } := I1.pins_of fun p hp => by
      rcases List.mem_append.mp hp with z | z
      · exact I1.pin p (List.mem_append_right _ z)
      · rcases List.mem_cons.mp z with rfl | z
        · exact ⟨hoI', nI, f1, f2, fun q e => by rw [hod] at e; cases e⟩
        · rw [List.mem_singleton.mp z]
          exact ⟨hS', nS, g1, g2, fun q e => nomatch e⟩
    show wpAny _ X.A.in1 (tryCatch (holding [v] (call (.ref f) [v])) _ >>= _) _ _ _
    refine wpAny_bind (wpAny_tryCatch (wpAny_holding (wpAny_mono (run_in1 F hr hb I2 (.cons ru .nil) (turn (j + 1) x hx H S0)) (fun y s'' he => ?_) fun _ _ hF => hF.elim)))
    obtain ⟨yv, H2, I3, ry, a, ea, ha, S2⟩ := he
    subst ea
    obtain rfl : y = Value.ref a := ry
    have pI := I3.pin (I, oI') (List.mem_append_right _ (List.mem_append_right _ (.head _)))
    have pS := I3.pin (S, seqObj "list" #[vb, .ref kb] c) (List.mem_append_right _ (List.mem_append_right _ (.tail _ (.head _))))
    have I4 : Inv X pins σ H2 s'' := I3.unpinned
    have hkb2 := S2 _ _ hkb
    have hit2 : s''.heap.IsListIter I l (j + 1 + 1) := ⟨oI', pI.1, hoc, hod⟩
    obtain ⟨is1, r1, t1, _⟩ := I4.tuple (SqT.of ha)
    obtain ⟨is2, r2, t2, _⟩ := I4.tuple (SqT.of hkb2)
    show wpAny _ X.A.in1 (tryCatch (holding [v, .ref a] (richCompare .Lt (.ref a) (.ref kb) >>= _)) _ >>= _) _ _ _
    refine wpAny_bind (wpAny_tryCatch (wpAny_holding (wpAny_bind ?_)))
    refine HT.lt_tupInts (A := X.A.in1) t1 t2 (by simpa using intsAre_of r1) (by simpa using intsAre_of r2) (by have := hr.in1.units0; exact this) ?_
    refine wpAny_bind (wpAny_holding (wpAny_truthy_bool ?_))
    refine wpAny_bind (wpAny_letGo (wpAny_pure ?_))
    have fI2 := fI H2 pI.2.1
    obtain ⟨g0, g1, g2, g3, g4, g5⟩ := fS H2 pS.2.1
    by_cases hb' : HT.lexLt (key (j + 1)) (key (bestIx key j)) = true
    · rw [hb']
      have s1 := Heap.SameBut.update s''.heap S (Obj.mapSeq fun _ => #[v, .ref a])
      obtain ⟨c2, hc2⟩ : ∃ c2, (s''.heap.update S (Obj.mapSeq fun _ => #[v, .ref a])).get? S = some (seqObj "list" #[v, .ref a] c2) := ⟨_, get?_update_seq pS.1 fun _ => #[v, .ref a]⟩
      simp only [if_true]
      refine wpAny_bind ?_
      refine wpAny_updateSeq pS.1 rfl (wpAny_bind (wpAny_letGo ?_))
      rw [hname]
      have e : bestIx key (j + 1) = j + 1 := by unfold bestIx; rw [if_pos hb']
      refine wpAny_pure ⟨plainId_quiet PySem.F.plain_min_loop _, ih (j + 1) H2 _ v a x c2 (by omega) hlt (I4.turned (fun b o hb e => (s1.2 b hb).trans e) g0 g1 g3 g4 g5) (S0.trans S2) pI.2.1 pS.2.1 ⟨oI', (s1.2 I hIS).trans pI.1, hoc, hod⟩ hc2 (by rw [e]; exact hx) ru (by rw [e]; exact ha)⟩
    · have hb2 : HT.lexLt (key (j + 1)) (key (bestIx key j)) = false := by
        cases e : HT.lexLt (key (j + 1)) (key (bestIx key j))
        · rfl
        · exact absurd e hb'
      rw [hb2]
      simp only [Bool.false_eq_true, if_false]
      refine wpAny_bind (wpAny_letGo ?_)
      rw [hname]
      have e : bestIx key (j + 1) = bestIx key j := by
        show (if HT.lexLt (key (j + 1)) (key (bestIx key j)) = true then j + 1 else bestIx key j) = _
        rw [if_neg hb']
      refine wpAny_pure ⟨plainId_quiet PySem.F.plain_min_loop _, ih (j + 1) H2 _ vb kb xb c (by omega) hlt I4 (S0.trans S2) pI.2.1 pS.2.1 hit2 pS.1 (by rw [e]; exact hxb) rb (by rw [e]; exact hkb2)⟩
theorem min_args (a v : Value) : argsOk "min" ⟨[a], [(Str.ofString "key", v), (Str.ofString "default", .none)]⟩ := by unfold argsOk; kernel_rfl
theorem min_call {xs : List V} {key : Nat → List Int} {l : Addr} {H0 : Hp} {s : Shared} {Q : VK} (F : FnOk X.prog X.w X.K X.mg X.base CX0 k f fd ps sp) (hr : Room (k + 1) X.A) (hb : Binds X.K fd ps []) (hc : X.calm = true) (I0 : Inv X pins σ H0 s) (hl0 : H0 l = some (.lst xs))
    (turn : ∀ (i : Nat) (x : V), xs[i]? = some x → ∀ H', Same H0 H' → sp [x] H' (fun v H'' => ∃ a, v = .ref a ∧ H'' a = some (.tup ((key i).map V.int)) ∧ Same H' H'') E0)
    (fin0 : xs = [] → Q .non H0) (fin : ∀ x H', xs[bestIx key (xs.length - 1)]? = some x → Same H0 H' → Q x H') :
    wpAny (model X.prog X.w) X.A (call (.builtin "min") [.ref l] [(Str.ofString "key", .ref f), (Str.ofString "default", .none)]) (EP X pins σ Q) X.xe s := by
  have hname : (toString "min" ++ toString ".loop" : String) = "min.loop" := by decide
  obtain ⟨its, rv, pl, hz⟩ := I0.list (SqL.of hl0)
  have hls := pl.isList
  have hsz : its.toArray.size = xs.length := by rw [List.size_toArray]; exact rv.length.symm
  have hll : l < s.heap.objs.size := I0.hok.lt hl0
  refine kmk_tree PySem.F.kind_min PySem.F.plain_min PySem.F.entry_min (min_args _ _) ?_
  show wpAny _ X.A.in1 (Builtin.Builtins.bindParams "min" ["key", "default"] 0 ⟨[], [(Str.ofString "key", .ref f), (Str.ofString "default", .none)]⟩ >>= _) _ _ s
  refine wpAny_bind (wpAny_of_eq (show Builtin.Builtins.bindParams "min" ["key", "default"] 0 ⟨[], [(Str.ofString "key", .ref f), (Str.ofString "default", .none)]⟩ = pure [some (.ref f), some .none] from rfl) ?_)
  refine wpAny_bind (wpAny_pure ?_)
  refine wpAny_bind (wpAny_pyIter_list hls ?_)
  refine wpAny_bind (wpAny_newList ?_ (Nat.zero_le _))
  rw [hname]
  refine wpAny_pure ⟨plainId_quiet PySem.F.plain_min_loop _, ?_⟩
  have hS : (s.heap.push { cls := .type "list_iterator", data := .fields #[.ref l, .int 0 0] }).objs.size = s.heap.objs.size + 1 := size_push' ..
  have hlI : l ≠ s.heap.objs.size := Nat.ne_of_lt hll
  have hSI : (s.heap.push { cls := .type "list_iterator", data := .fields #[.ref l, .int 0 0] }).objs.size ≠ s.heap.objs.size := by rw [hS]; exact Nat.ne_of_gt (Nat.lt_succ_self _)
  have gI : ((s.heap.push { cls := .type "list_iterator", data := .fields #[.ref l, .int 0 0] }).push (seqObj "list" #[] 0)).get? s.heap.objs.size = some { cls := .type "list_iterator", data := .fields #[.ref l, .int 0 0] } :=
    Heap.get?_push_of_some _ (Heap.get?_push_size _ rfl)
  have gS : ((s.heap.push { cls := .type "list_iterator", data := .fields #[.ref l, .int 0 0] }).push (seqObj "list" #[] 0)).get? (s.heap.push { cls := .type "list_iterator", data := .fields #[.ref l, .int 0 0] }).objs.size = some (seqObj "list" #[] 0) := Heap.get?_push_size _ rfl
  have I1 : Inv X pins σ H0 { s with heap := (s.heap.push { cls := .type "list_iterator", data := .fields #[.ref l, .int 0 0] }).push (seqObj "list" #[] 0) } := I0.kept (t' := s.toks) fun b o e => Heap.get?_push_of_some _ (Heap.get?_push_of_some _ e)
  have fI : ∀ H' : Hp, H' s.heap.objs.size = none → FpOk X pins H' s.heap.objs.size := fun H' h => I0.fpOk (Nat.le_refl _) h
  have fS : ∀ H' : Hp, H' (s.heap.push { cls := .type "list_iterator", data := .fields #[.ref l, .int 0 0] }).objs.size = none → FpOk X pins H' (s.heap.push { cls := .type "list_iterator", data := .fields #[.ref l, .int 0 0] }).objs.size := fun H' h => I0.fpOk (by rw [hS]; exact Nat.le_succ _) h
  have nI : H0 s.heap.objs.size = none := I0.hok.fresh (Nat.le_refl _)
  have nS : H0 (s.heap.push { cls := .type "list_iterator", data := .fields #[.ref l, .int 0 0] }).objs.size = none := I0.hok.fresh (by rw [hS]; exact Nat.le_succ _)
  show codeAny _ _ (.builtin "min.loop" ⟨[.ref s.heap.objs.size, .ref f, .ref (s.heap.push { cls := .type "list_iterator", data := .fields #[.ref l, .int 0 0] }).objs.size], [(Str.ofString "default", .none)]⟩) _ { s with heap := (s.heap.push { cls := .type "list_iterator", data := .fields #[.ref l, .int 0 0] }).push (seqObj "list" #[] 0) }
  generalize hs1 : ({ s with heap := (s.heap.push { cls := .type "list_iterator", data := .fields #[.ref l, .int 0 0] }).push (seqObj "list" #[] 0) } : Shared) = s1 at I1
  have hit : s1.heap.IsListIter s.heap.objs.size l 0 := by rw [← hs1]; exact ⟨_, gI, rfl, rfl⟩
  have gS1 : s1.heap.get? (s.heap.push { cls := .type "list_iterator", data := .fields #[.ref l, .int 0 0] }).objs.size = some (seqObj "list" #[] 0) := by rw [← hs1]; exact gS
  generalize (s.heap.push { cls := .type "list_iterator", data := .fields #[.ref l, .int 0 0] }).objs.size = S at *
  generalize s.heap.objs.size = I at *
  obtain ⟨its1, rv1, pl1, hz1⟩ := I1.list (SqL.of hl0)
  have hsz1 : its1.toArray.size = xs.length := by rw [List.size_toArray]; exact rv1.length.symm
  have W := Walks.list (prog := X.prog) (w := X.w) (A := X.A.in1) (I1.ok.hd hc) I l hlI its1.toArray
  refine codeAny_builtin PySem.F.entry_min_loop ?_
  rw [Around.under_plainId PySem.F.plain_min_loop _]
  show wpAny _ X.A.in1 (seqItems? (.ref S) >>= _) _ _ _
  refine wpAny_bind (wpAny_seqItems gS1 rfl ?_)
  show wpAny _ X.A.in1 (tryCatch (pyNext (.ref I)) _ >>= _) _ _ _
  obtain ⟨f0, f1, f2, f3, f4, f5⟩ := fI H0 nI
  obtain ⟨g0, g1, g2, g3, g4, g5⟩ := fS H0 nS
  by_cases hx0 : xs = []
  · subst hx0
    refine wpAny_bind (wpAny_tryCatch (W.done _ _ _ ⟨by rw [hsz1]; exact hit, pl1.isList⟩ fun h' tk' hk' => ?_))
    have I2 : Inv X pins σ H0 { s1 with heap := h', toks := tk' } := I1.turned (fun b o hb e => hk' b o (by simpa using hb) e) f0 f1 f3 f4 f5
    refine wpAny_bind (wpAny_rule (wpAny_pure ?_))
    exact ⟨.non, H0, I2, rfl, fin0 rfl⟩
  · have hne : 0 < xs.length := List.length_pos_iff.mpr hx0
    refine wpAny_bind (wpAny_tryCatch (W.item 0 _ _ _ (by rw [hsz1]; exact hne) ⟨hit, pl1.isList⟩ fun v h' tk' hP hst' hk' => ?_))
    have hv : its1[0]? = some v := by simpa using hP
    obtain ⟨x, hx⟩ : ∃ x, xs[0]? = some x := ⟨_, List.getElem?_eq_getElem hne⟩
    obtain ⟨u, hu, ru⟩ := rv1.get hx
    rw [hv] at hu
    cases hu
    obtain ⟨oI', hoI', hoc, hod⟩ := id hst'.1
    have I2 : Inv X pins σ H0 { s1 with heap := h', toks := tk' } := I1.turned (fun b o hb e => hk' b o (by simpa using hb) e) f0 f1 f3 f4 f5
    have hS' := hk' S _ (by simpa using hSI) gS1
    have I3 : Inv X (pins ++ [(I, oI'), (S, seqObj "list" #[] 0)]) σ H0 { s1 with heap := h', toks := tk' } := I2.pins_of fun p hp => by
      rcases List.mem_append.mp hp with z | z
      · exact I2.pin p (List.mem_append_right _ z)
      · rcases List.mem_cons.mp z with rfl | z
        · exact ⟨hoI', nI, f1, f2, fun q e => by rw [hod] at e; cases e⟩
        · rw [List.mem_singleton.mp z]
          exact ⟨hS', nS, g1, g2, fun q e => nomatch e⟩
    show wpAny _ X.A.in1 (tryCatch (holding [v] (call (.ref f) [v])) _ >>= _) _ _ _
    refine wpAny_bind (wpAny_tryCatch (wpAny_holding (wpAny_mono (run_in1 F hr hb I3 (.cons ru .nil) (turn 0 x hx H0 (Same.refl H0))) (fun y s'' he => ?_) fun _ _ hF => hF.elim)))
    obtain ⟨yv, H2, I4, ry, a, ea, ha, S2⟩ := he
    subst ea
    obtain rfl : y = Value.ref a := ry
    have pI := I4.pin (I, oI') (List.mem_append_right _ (List.mem_append_right _ (.head _)))
    have pS := I4.pin (S, seqObj "list" #[] 0) (List.mem_append_right _ (List.mem_append_right _ (.tail _ (.head _))))
    have I5 : Inv X pins σ H2 s'' := I4.unpinned
    have s1' := Heap.SameBut.update s''.heap S (Obj.mapSeq fun _ => #[v, .ref a])
    obtain ⟨c2, hc2⟩ : ∃ c2, (s''.heap.update S (Obj.mapSeq fun _ => #[v, .ref a])).get? S = some (seqObj "list" #[v, .ref a] c2) := ⟨_, get?_update_seq pS.1 fun _ => #[v, .ref a]⟩
    obtain ⟨g0, g1, g2, g3, g4, g5⟩ := fS H2 pS.2.1
    show wpAny _ X.A.in1 (updateSeq S (fun _ => #[v, .ref a]) >>= _) _ _ _
    refine wpAny_bind ?_
    refine wpAny_updateSeq pS.1 rfl ?_
    rw [hname]
    exact wpAny_pure ⟨plainId_quiet PySem.F.plain_min_loop _, min_loop F hr hb hc hSI.symm hlI fI fS hl0 turn fin _ 0 H2 _ v a x c2 rfl hne (I5.turned (fun b o hb e => (s1'.2 b hb).trans e) g0 g1 g3 g4 g5) S2 pI.2.1 pS.2.1 ⟨oI', (s1'.2 I hSI.symm).trans pI.1, hoc, hod⟩ hc2 hx ru ha⟩
def tMinKD (sp : Sp) (te : TE) : TE := fun σ H Q => te σ H fun x H1 => ∃ l xs, ∃ key : Nat → List Int, x = .ref l ∧ H1 l = some (.lst xs) ∧
  (∀ (i : Nat) (x : V), xs[i]? = some x → ∀ H', Same H1 H' → sp [x] H' (fun v H'' => ∃ a, v = .ref a ∧ H'' a = some (.tup ((key i).map V.int)) ∧ Same H' H'') E0) ∧
  (xs = [] → Q .non H1) ∧ ∀ x H', xs[bestIx key (xs.length - 1)]? = some x → Same H1 H' → Q x H'
theorem q_minKD {e : Expr} {te : TE} {y : Str} {p p1 p2 p3 p4 pos : Pos} {j : Nat} (F : FnOk X.prog X.w X.K X.mg X.base CX0 k f fd ps sp) (hr : Room (k + 1) X.A) (hg : Gl X "min") (hm : X.mg "min" = none) (hgf : Gl X y) (hmf : X.mg y = some (.ref f)) (hb : Binds X.K fd ps []) (hc : X.calm = true)
    (he : QE X e te) (hs : notStar e = true := by rfl) (hd : (y == ("__debug__" : Str)) = false := by decide) :
    QE X (.Call (.Name "min" p) [e] [⟨some "key", .Name y p1, p2⟩, ⟨some "default", .Constant .none j p3, p4⟩] pos) (tMinKD sp te) := by
  refine ⟨fun pins s σ H Q I h => ?_⟩
  refine wpAny_Call_Name_kw (ld_blt I hg hm PyProof.Rows.boot_min ?_)
  refine callWith_kw ?_ (by rw [st1 hs]; rfl) (st2 (by rw [List.all_cons, hs]; rfl)) rfl rfl
  rw [st1 hs]
  refine Calls.spliced_cons (thn (he.h pins s σ H _ I h) fun u s1 ⟨x, H1, I1, r1, l, xs, key, ex, hl, turn, fin0, fin⟩ => Calls.spliced_nil ?_)
  subst ex
  obtain rfl : u = Value.ref l := r1
  refine kws_cons (ld_glob I1 hgf hmf (kws_cons (Constant_none (kws_nil ?_))) hd)
  exact min_call F hr hb hc I1 hl turn fin0 fin
end
end Tb
local macro_rules | `(tactic| walk_at "ift") => `(tactic| (dsimp only; rw [if_pos rfl]))
local macro_rules | `(tactic| walk_at "iff") => `(tactic| (dsimp only; rw [if_neg Bool.false_ne_true]))
namespace Tb
open PySem PySem.Spec PyProof.Rows L2
def wayKey (b : Ql46.Bridge) (k : Nat) : List Nat := [(b.port k).root, (b.port k).cost + (b.port k).pathCost, (b.port k).bridge, (b.port k).port, k]
theorem lex_less : ∀ (l m : List Nat), l.length = m.length → HT.lexLt (l.map fun (n : Nat) => (n : Int)) (m.map fun (n : Nat) => (n : Int)) = Ql46.wayLess.less l m
  | [], [], _ => rfl
  | [], _ :: _, h => by cases h
  | _ :: _, [], h => by cases h
  | u :: l, v :: m, h => by
    rw [List.map_cons, List.map_cons, HT.lexLt_cons, lex_less l m (Nat.succ.inj h)]
    show _ = (decide (u < v) || (u == v && Ql46.wayLess.less l m))
    by_cases e : u = v
    · subst e
      rw [if_pos rfl, decide_eq_false (Nat.lt_irrefl _), beq_self_eq_true, Bool.false_or, Bool.true_and]
    · rw [if_neg (by omega), beq_eq_false_iff_ne.mpr e, Bool.false_and, Bool.or_false]
      exact decide_eq_decide.mpr (by omega)
theorem way_lex (b : Ql46.Bridge) (j k : Nat) : Ql46.wayLess b j k = HT.lexLt ((wayKey b j).map fun (n : Nat) => (n : Int)) ((wayKey b k).map fun (n : Nat) => (n : Int)) := (lex_less (wayKey b j) (wayKey b k) rfl).symm
def cand (b : Ql46.Bridge) (n : Nat) : List Nat := (List.range n).filter fun j => mayB b (j + 1)
theorem cand_succ (b : Ql46.Bridge) (n : Nat) : cand b (n + 1) = if mayB b (n + 1) = true then cand b n ++ [n] else cand b n := by
  unfold cand
  rw [List.range_succ, List.filter_append]
  by_cases h : mayB b (n + 1) = true
  · rw [if_pos h, List.filter_cons, if_pos h, List.filter_nil]
  · rw [if_neg h, List.filter_cons, if_neg h, List.filter_nil, List.append_nil]
theorem cand_lt {b : Ql46.Bridge} {n c : Nat} (h : c ∈ cand b n) : c < n ∧ mayB b (c + 1) = true := by
  unfold cand at h
  obtain ⟨h1, h2⟩ := List.mem_filter.mp h
  exact ⟨List.mem_range.mp h1, h2⟩
def ckey (b : Ql46.Bridge) (cs : List Nat) (i : Nat) : List Int := (wayKey b (cs.getD i 0 + 1)).map fun (n : Nat) => (n : Int)
def chStep (b : Ql46.Bridge) (m : Option Nat) (k : Nat) : Option Nat := match m with
  | none => some k
  | some j => if Ql46.wayLess b k j = true then some k else some j
theorem best_fold (b : Ql46.Bridge) (cs : List Nat) : ∀ n, n + 1 ≤ cs.length → ((cs.take (n + 1)).map (· + 1)).foldl (chStep b) none = some (cs.getD (bestIx (ckey b cs) n) 0 + 1)
  | 0, h => by
    match cs, h with
    | c :: r, _ => rfl
  | n + 1, h => by
    have ih := best_fold b cs n (by omega)
    have e : cs[n + 1]? = some (cs.getD (n + 1) 0) := by rw [List.getD_eq_getElem?_getD, List.getElem?_eq_getElem (by omega)]; rfl
    rw [take_snoc e, List.map_append, List.foldl_append, ih]
    show chStep b (some (cs.getD (bestIx (ckey b cs) n) 0 + 1)) (cs.getD (n + 1) 0 + 1) = _
    unfold chStep
    dsimp only
    rw [way_lex]
    show (if HT.lexLt (ckey b cs (n + 1)) (ckey b cs (bestIx (ckey b cs) n)) = true then _ else _) = some (cs.getD (if HT.lexLt (ckey b cs (n + 1)) (ckey b cs (bestIx (ckey b cs) n)) = true then n + 1 else bestIx (ckey b cs) n) 0 + 1)
    split <;> rfl
theorem bestIx_le (key : Nat → List Int) : ∀ n, bestIx key n ≤ n
  | 0 => Nat.le_refl _
  | n + 1 => by
    unfold bestIx
    split
    · exact Nat.le_refl _
    · exact Nat.le_succ_of_le (bestIx_le key n)
theorem choose_none {b : Ql46.Bridge} (h : cand b b.ports.length = []) : Ql46.choose b = { b with rootPort := 0, root := b.id, cost := 0 } := by
  unfold Ql46.choose
  dsimp only
  have e : (b.all.filter fun k => !b.leads k && ((b.port k).state != 0 && decide ((b.port k).root < b.id))) = (cand b b.ports.length).map (· + 1) := by
    unfold cand Ql46.Bridge.all
    rw [List.filter_map]; rfl
  rw [e, h]
  rfl
theorem choose_some {b : Ql46.Bridge} {k : Nat} (h : cand b b.ports.length ≠ []) (hk : k = (cand b b.ports.length).getD (bestIx (ckey b (cand b b.ports.length)) ((cand b b.ports.length).length - 1)) 0 + 1) :
    Ql46.choose b = { b with rootPort := k, root := (b.port k).root, cost := (b.port k).cost + (b.port k).pathCost } := by
  unfold Ql46.choose
  dsimp only
  have e : (b.all.filter fun k => !b.leads k && ((b.port k).state != 0 && decide ((b.port k).root < b.id))) = (cand b b.ports.length).map (· + 1) := by
    unfold cand Ql46.Bridge.all
    rw [List.filter_map]; rfl
  rw [e]
  have hl : 0 < (cand b b.ports.length).length := List.length_pos_iff.mpr h
  have q := best_fold b (cand b b.ports.length) ((cand b b.ports.length).length - 1) (by omega)
  rw [Nat.sub_add_cancel hl, List.take_length, ← hk] at q
  generalize hF : List.foldl _ none ((cand b b.ports.length).map (· + 1)) = o
  have ho : o = some k := hF.symm.trans q
  subst ho
  rfl
section
variable {P : Program} {w : World} {K : PySem.W.Frag} {mg : Str → Option Value} {base : Heap} {t : Adr}
def sp_Bridge_choose (K : PySem.W.Frag) (t : Adr) : Sp := sp1 fun x H Q => ∃ L d, x = .ref L.b ∧ Rep t L H d ∧ Good d.1 ∧ ∀ H', Rp t L H H' (Ql46.choose d.1, d.2) → Q .non H'
theorem ok_Bridge_choose (T : Txt K mg t) : FnOk P w K mg base CX0 3 t.f_Bridge_choose t.fd_Bridge_choose ["self"] (sp_Bridge_choose K t) := by
  refine T.F_Bridge_choose.okQ sc_Bridge_choose sp1_len (fun cdv A outer s H vs Q E hr h => ?_)
  obtain ⟨x0, rfl, h⟩ := h
  obtain ⟨L, d, rfl, R, g, k⟩ := h
  obtain ⟨dx, tr, hb⟩ := R.br
  refine ⟨_, (qb_cons (qs_set (i := 1) sc_Bridge_choose.nd rfl (Or.inl rfl) (q_minKD (ok_rank (K := K) T) (hr.mono (by decide)) rfl T.n_min rfl T.m_rank T.b_rank rfl (q_lc (own := [("port", 2)]) rfl sc_Bridge_choose.nd (qi_list (K := K) rfl (q_fld (K := K) rfl (qv 0) rfl)) (blkOk_by rfl) (fun _ _ _ _ _ => (qg_name (i := 2) sc_Bridge_choose.nd rfl (Or.inl rfl))) (fun _ _ _ _ _ => (qts_one (qt_val (q_meth (qv 0) T.l_Bridge T.M_Bridge_may_be_chosen (ok_Bridge_may_be_chosen (K := K) T) (hr.mono (by decide)) T.b_Bridge_may_be_chosen .nil pass0 (qac (qv 2) qa_nil))))) (fun _ _ _ _ _ => (qv 2))))) (qb_one (qs_if (qt_cmp op_isN (qv 1) q_non (nomark _)) (qb_cons (qs_fld (K := K) rfl (qv 0) q_int rfl) (qb_cons (qs_fld (K := K) rfl (qv 0) (q_fld (K := K) rfl (qv 0) rfl) rfl) (qb_one (qs_fld (K := K) rfl (qv 0) q_int rfl)))) (qb_cons (qs_fld (K := K) rfl (qv 0) (q_fld (K := K) rfl (qv 1) rfl) rfl) (qb_cons (qs_fld (K := K) rfl (qv 0) (q_fld (K := K) rfl (q_fld (K := K) rfl (qv 1) rfl) rfl) rfl) (qb_one (qs_fld (K := K) rfl (qv 0) (q_op op_add (q_fld (K := K) rfl (q_fld (K := K) rfl (qv 1) rfl) rfl) (q_fld (K := K) rfl (qv 1) rfl)) rfl))))))), ?_⟩
  let refs : List Nat → List V := fun cs => cs.map fun j => V.ref (L.ps.getD j 0)
  refine ⟨_, rfl, L.b, _, _, _, _, rfl, hb.at_, T.l_Bridge, T.a_Bridge_ports, g_Bridge_ports, L.pl, rfl, ⟨_, SqL.of R.pl⟩, fun D hD => lc_list (K := K) (a := L.pl) (xs := L.ps.map V.ref) (fun i H' => H' = upd H D (.lst (refs (cand d.1 i)))) rfl (fun i H' _ e => ?_) (fun i x H' hi e => ?_) (fun H' e => ?_)⟩
  · rw [e]; exact SqL.of (Same.new hD _ _ R.pl)
  · subst e
    rw [List.getElem?_map] at hi
    cases e : L.ps[i]? with
    | none => rw [e] at hi; cases hi
    | some a =>
      rw [e] at hi
      cases hi
      have S := Same.new (o := .lst (refs (cand d.1 i))) hD
      refine ⟨rfl, ?_⟩
      refine ⟨_, rfl, L.b, _, _, rfl, S _ _ hb.at_, x_Bridge_may_be_chosen, _, rfl, _, _, rfl, L, d, i, a, rfl, rfl, e, R.same S, _, rfl, ?_⟩
      refine ifB (fun c => ?_) (fun c => ?_)
      · refine ⟨_, rfl, _, upd_same, ?_, ?_⟩
        · have h1 : (refs (cand d.1 i)).length ≤ i := by
            show ((cand d.1 i).map _).length ≤ i
            rw [List.length_map]
            unfold cand
            exact Nat.le_trans (List.length_filter_le _ _) (Nat.le_of_eq List.length_range)
          exact Nat.lt_of_le_of_lt h1 (Nat.lt_of_lt_of_le (List.ix_lt e) (by rw [R.len]; exact Nat.le_trans g.few (by decide)))
        · rw [upd_upd, cand_succ, if_pos c]
          show _ = upd H D (.lst ((cand d.1 i ++ [i]).map fun j => V.ref (L.ps.getD j 0)))
          rw [List.map_append]
          have e2 : L.ps.getD i 0 = a := by rw [List.getD_eq_getElem?_getD, e]; rfl
          rw [List.map_cons, e2]
          rfl
      · show upd H D _ = upd H D _
        rw [cand_succ, if_neg (by rw [c]; exact Bool.false_ne_true)]
  · subst e
    rw [List.length_map, R.len]
    have S := Same.new (o := .lst (refs (cand d.1 d.1.ports.length))) hD
    have R1 := R.rp.same S
    have hD1 : upd H D (.lst (refs (cand d.1 d.1.ports.length))) D = some (.lst (refs (cand d.1 d.1.ports.length))) := upd_same
    have pick : ∀ (i : Nat) (x : V), (refs (cand d.1 d.1.ports.length))[i]? = some x → ∃ c a, (cand d.1 d.1.ports.length).getD i 0 = c ∧ L.ps[c]? = some a ∧ x = .ref a ∧ mayB d.1 (c + 1) = true := fun i x hi => by
      have hi : ((cand d.1 d.1.ports.length).map fun j => V.ref (L.ps.getD j 0))[i]? = some x := hi
      rw [List.getElem?_map] at hi
      cases e : (cand d.1 d.1.ports.length)[i]? with
      | none => rw [e] at hi; cases hi
      | some c =>
        rw [e] at hi
        cases hi
        obtain ⟨h1, h2⟩ := cand_lt (List.mem_of_getElem? e)
        rw [← R.len] at h1
        exact ⟨c, L.ps.getD c 0, by rw [List.getD_eq_getElem?_getD, e]; rfl, by rw [List.getD_eq_getElem?_getD, List.getElem?_eq_getElem h1]; rfl, rfl, h2⟩
    have stOf : ∀ c, mayB d.1 c = true → (d.1.port c).state ≠ 0 := fun c h => by
      unfold mayB at h
      rw [Bool.and_eq_true, Bool.and_eq_true] at h
      exact bne_iff_ne.mp h.2.1
    generalize upd H D (.lst (refs (cand d.1 d.1.ports.length))) = H1 at S R1 hD1
    refine ⟨D, refs (cand d.1 d.1.ports.length), ckey d.1 (cand d.1 d.1.ports.length), rfl, hD1, fun i x hi H' S' => ?_, fun e0 => ?_, fun x H' hx S' => ?_⟩
    · obtain ⟨c, a, hc, ha, rfl, hm⟩ := pick i x hi
      obtain ⟨dp, lr, wc, hp⟩ := (R1.rep.same S').po c a ha
      refine ⟨_, rfl, a, c + 1, _, dp, lr, wc, rfl, hp, fun p hp' => ⟨p, rfl, upd_same.trans ?_, Same.new hp'⟩⟩
      unfold ckey
      rw [hc, hp.way (stOf _ hm)]
      rfl
    · obtain ⟨dx1, tr1, hb1⟩ := R1.rep.br
      have hn : cand d.1 d.1.ports.length = [] := List.map_eq_nil_iff.mp e0
      rw [choose_none hn] at k
      refine ⟨_, rfl, rfl, _, rfl, ?_⟩
      refine ifD (fun _ => ?_) (fun z => absurd rfl z)
      refine ⟨_, rfl, L.b, _, dx1, _, rfl, hb1.at_, T.l_Bridge, T.a_Bridge_root_port, few, ?_⟩
      refine ⟨_, rfl, L.b, _, _, _, _, rfl, upd_same, T.l_Bridge, T.a_Bridge_own_id, (p_Bridge_root_port ▸ g_Bridge_own_id), _, rfl, L.b, _, dx1, _, rfl, upd_same, T.l_Bridge, T.a_Bridge_root, few, ?_⟩
      refine ⟨_, rfl, L.b, _, dx1, _, rfl, upd_same, T.l_Bridge, T.a_Bridge_cost, few, ?_⟩
      rw [upd_upd, upd_upd]
      exact k _ (R1.setBr (b := { d.1 with rootPort := 0, root := d.1.id, cost := 0 }) (dx := dx1) (tr := tr1) rfl rfl hb1.times)
    · obtain ⟨c, a, hc, ha, rfl, hm⟩ := pick _ x hx
      have R2 := R1.same S'
      obtain ⟨dp, lr, wc, hp⟩ := R2.rep.po c a ha
      obtain ⟨dl, hl⟩ := hp.lead
      obtain ⟨dx1, tr1, hb1⟩ := R2.rep.br
      have hlen : (refs (cand d.1 d.1.ports.length)).length = (cand d.1 d.1.ports.length).length := List.length_map ..
      rw [hlen] at hc
      have hne : cand d.1 d.1.ports.length ≠ [] := fun e => by
        have hx : ((cand d.1 d.1.ports.length).map fun j => V.ref (L.ps.getD j 0))[bestIx (ckey d.1 (cand d.1 d.1.ports.length)) ((refs (cand d.1 d.1.ports.length)).length - 1)]? = some (V.ref a) := hx
        rw [e] at hx
        simp at hx
      rw [choose_some (k := c + 1) hne (by rw [hc])] at k
      have hab : a ≠ L.b := ne_shp hp.at_ hb1.at_ rfl
      have hlb : lr ≠ L.b := ne_shp hl hb1.at_ rfl
      refine ⟨_, rfl, rfl, _, rfl, ?_⟩
      refine ifD (fun z => nomatch z) (fun _ => ?_)
      refine ⟨_, rfl, a, _, _, _, _, rfl, hp.at_, T.l_Port, T.a_Port_place, g_Port_place, _, rfl, L.b, _, dx1, _, rfl, hb1.at_, T.l_Bridge, T.a_Bridge_root_port, few, ?_⟩
      refine ⟨_, rfl, a, _, _, _, _, rfl, (upd_ne hab).trans hp.at_, T.l_Port, T.a_Port_leader, g_Port_leader, lr, _, _, _, _, rfl, (upd_ne hlb).trans hl, T.l_Leader, T.a_Leader_root, g_Leader_root, _, rfl, L.b, _, dx1, _, rfl, upd_same, T.l_Bridge, T.a_Bridge_root, few, ?_⟩
      rw [upd_upd]
      refine ⟨_, rfl, a, _, _, _, _, rfl, (upd_ne hab).trans hp.at_, T.l_Port, T.a_Port_leader, g_Port_leader, lr, _, _, _, _, rfl, (upd_ne hlb).trans hl, T.l_Leader, T.a_Leader_cost, g_Leader_cost,
        _, rfl, a, _, _, _, _, rfl, (upd_ne hab).trans hp.at_, T.l_Port, T.a_Port_way_cost, g_Port_way_cost, _, _, rfl, rfl, _, rfl, L.b, _, dx1, _, rfl, upd_same, T.l_Bridge, T.a_Bridge_cost, few, ?_⟩
      rw [upd_upd, hp.way (stOf _ hm)]
      exact k _ (R2.setBr (b := { d.1 with rootPort := c + 1, root := (d.1.port (c + 1)).root, cost := (d.1.port (c + 1)).cost + (d.1.port (c + 1)).pathCost }) (dx := dx1) (tr := tr1) rfl rfl hb1.times)
end
end Tb
local macro_rules | `(tactic| walk_at "ift") => `(tactic| (dsimp only; rw [if_pos rfl]))
local macro_rules | `(tactic| walk_at "iff") => `(tactic| (dsimp only; rw [if_neg Bool.false_ne_true]))
namespace Tb
open PySem PySem.Spec PyProof.Rows L2
theorem choose_ports (b : Ql46.Bridge) : (Ql46.choose b).ports = b.ports := by
  unfold Ql46.choose
  dsimp only
  split <;> rfl
theorem choose_table (b : Ql46.Bridge) : (Ql46.choose b).table = b.table := by
  unfold Ql46.choose
  dsimp only
  split <;> rfl
theorem good_choose {b : Ql46.Bridge} (g : Good b) : Good (Ql46.choose b) := by
  have hp := choose_ports b
  refine ⟨fun z => ?_, fun k => ?_, by rw [hp]; exact g.few, fun k => ?_, fun k => ?_⟩
  · by_cases h : cand b b.ports.length = []
    · rw [choose_none h] at z
      exact absurd z (by unfold Ql46.Bridge.isRoot; simp)
    · rw [hp]
      have hl : 0 < (cand b b.ports.length).length := List.length_pos_iff.mpr h
      have hb := bestIx_le (ckey b (cand b b.ports.length)) ((cand b b.ports.length).length - 1)
      rw [choose_some h rfl]
      generalize bestIx (ckey b (cand b b.ports.length)) ((cand b b.ports.length).length - 1) = i at *
      have hi : i < (cand b b.ports.length).length := by omega
      have hm : (cand b b.ports.length).getD i 0 ∈ cand b b.ports.length := by
        rw [List.getD_eq_getElem?_getD, List.getElem?_eq_getElem hi]
        exact List.getElem_mem hi
      have := (cand_lt hm).1
      exact ⟨Nat.le_add_left _ _, this⟩
  · have := g.st k
    unfold Ql46.Bridge.port at this ⊢
    rw [hp]; exact this
  · have := g.off k
    unfold Ql46.Bridge.port at this ⊢
    rw [hp]; exact this
  · have := g.wt k
    unfold Ql46.Bridge.port at this ⊢
    rw [hp]; exact this
theorem ok_choose (b : Ql46.Bridge) (s : Ql46.Sent) : Ok 0 (b, s) (Ql46.choose b, s) := ⟨good_choose, congrArg List.length (choose_ports b), Nat.le_refl _, choose_table b⟩
theorem ok_update (b : Ql46.Bridge) (s : Ql46.Sent) : Ok 0 (b, s) (Ql46.update b, s) := (ok_choose b s).trans (ok_chooseLed (Ql46.choose b) s)
section
variable {P : Program} {w : World} {K : PySem.W.Frag} {mg : Str → Option Value} {base : Heap} {t : Adr}
def sp_Bridge_update_tree (K : PySem.W.Frag) (t : Adr) : Sp := sp1 fun x H Q => ∃ L d, x = .ref L.b ∧ Rep t L H d ∧ Good d.1 ∧ d.2.length < 100000 ∧ ∀ H', Rp t L H H' (Ql46.update d.1, d.2) → Q .non H'
theorem ok_Bridge_update_tree (T : Txt K mg t) : FnOk P w K mg base CX0 5 t.f_Bridge_update_tree t.fd_Bridge_update_tree ["self"] (sp_Bridge_update_tree K t) := by
  refine T.F_Bridge_update_tree.okQ sc_Bridge_update_tree sp1_len (fun cdv A outer s H vs Q E hr h => ?_)
  obtain ⟨x0, rfl, h⟩ := h
  obtain ⟨L, d, rfl, R, g, hz, k⟩ := h
  obtain ⟨dx, tr, hb⟩ := R.br
  refine ⟨_, (qb_cons (qs_expr (q_meth0 (qv 0) T.l_Bridge T.M_Bridge_choose (ok_Bridge_choose (K := K) T) (hr.mono (by decide)) T.b_Bridge_choose .nil pass0)) (qb_one (qs_for PassesOwn.never rfl (qi_list (K := K) rfl (q_fld (K := K) rfl (qv 0) rfl)) (qg_name (i := 1) sc_Bridge_update_tree.nd rfl (Or.inl rfl)) (qb_one (qs_if (qt_val (q_meth (qv 0) T.l_Bridge T.M_Bridge_is_to_lead (ok_Bridge_is_to_lead (K := K) T) (hr.mono (by decide)) T.b_Bridge_is_to_lead .nil pass0 (qac (qv 1) qa_nil))) (qb_one (qs_expr (q_meth (qv 0) T.l_Bridge T.M_Bridge_lead (ok_Bridge_lead (K := K) T) (hr.mono (by decide)) T.b_Bridge_lead .nil pass0 (qac (qv 1) qa_nil)))) qb_nil))))), ?_⟩
  refine ⟨_, rfl, L.b, _, _, rfl, hb.at_, x_Bridge_choose, _, rfl, L, d, rfl, R, g, fun H1 R1 => ?_⟩
  refine r_ports T leadTurn (fun k d _ => ok_leadTurn k d) R1.rep (good_choose g) (by show d.2.length + 16 * 0 < _; omega) (fun i a H2 d2 E hi R2 g2 hz2 _ kE => ?_) fun v H' R' => ?_
  · obtain ⟨dx, tr, hb⟩ := R2.br
    unfold leadTurn at kE
    refine ⟨_, rfl, L.b, _, _, rfl, hb.at_, x_Bridge_is_to_lead, _, rfl, _, _, rfl, L, d2, i, a, rfl, rfl, hi, R2, _, rfl, ?_⟩
    refine ifD (fun c => ?_) (fun c => ?_)
    · rw [if_pos c] at kE
      exact ⟨_, rfl, L.b, _, _, rfl, hb.at_, x_Bridge_lead, _, rfl, _, _, rfl, L, d2, i, a, rfl, rfl, hi, R2, kE⟩
    · rw [if_neg c] at kE
      exact kE _ R2.rp
  · refine k _ (R1.trans ?_)
    have e : (Ql46.update d.1, d.2) = itr leadTurn (Ql46.choose d.1).ports.length (Ql46.choose d.1, d.2) := chooseLed_itr (Ql46.choose d.1) d.2
    rw [e]; exact R'
def sp_take_changed (K : PySem.W.Frag) (t : Adr) : Sp := sp2 fun x y H Q => ∃ L d i a, x = .ref L.b ∧ y = .ref a ∧ L.ps[i]? = some a ∧ Rep t L H d ∧ Good d.1 ∧ (d.1.port (i + 1)).state ≠ 0 ∧ d.2.length < 90000 ∧ ∀ H', Rp t L H H' (Ql46.hearChange (i + 1) d) → Q .non H'
theorem ok_take_changed (T : Txt K mg t) : FnOk P w K mg base CX0 7 t.f_take_changed t.fd_take_changed ["bridge", "port"] (sp_take_changed K t) := by
  refine T.F_take_changed.okQ sc_take_changed sp2_len (fun cdv A outer s H vs Q E hr h => ?_)
  obtain ⟨x0, x1, rfl, h⟩ := h
  obtain ⟨L, d, i, a, rfl, rfl, hi, R, g, hn, hz, k⟩ := h
  obtain ⟨dx, tr, hb⟩ := R.br
  unfold Ql46.hearChange at k
  refine ⟨_, (qb_one (qs_if (qt_val (q_meth (qv 0) T.l_Bridge T.M_Bridge_is_led (ok_Bridge_is_led (K := K) T) (hr.mono (by decide)) T.b_Bridge_is_led .nil pass0 (qac (qv 1) qa_nil))) (qb_cons (qs_expr (q_meth0 (qv 0) T.l_Bridge T.M_Bridge_find_change (ok_Bridge_find_change (K := K) T) (hr.mono (by decide)) T.b_Bridge_find_change .nil pass0)) (qb_cons (qs_fld (K := K) rfl (qv 1) q_bl rfl) (qb_one (qs_expr (q_meth (qv 0) T.l_Bridge T.M_Bridge_tell (ok_Bridge_tell (K := K) T) (hr.mono (by decide)) T.b_Bridge_tell .nil pass0 (qac (qv 1) qa_nil)))))) qb_nil)), ?_⟩
  refine ⟨_, rfl, L.b, _, _, rfl, hb.at_, x_Bridge_is_led, _, rfl, _, _, rfl, L, d, i, a, rfl, rfl, hi, R, _, rfl, ?_⟩
  refine ifB (fun c => ?_) (fun c => ?_)
  · rw [if_pos ⟨hn, c⟩] at k
    refine ⟨_, rfl, L.b, _, _, rfl, hb.at_, x_Bridge_find_change, _, rfl, L, d, rfl, R, g.root, by omega, fun H1 R1 => ?_⟩
    have ok1 := ok_changed d
    obtain ⟨dp, lr, wc, hp⟩ := R1.rep.po i a hi
    refine ⟨_, rfl, a, _, dp, _, rfl, hp.at_, T.l_Port, T.a_Port_to_call_known, few, ?_⟩
    have R2 := R1.setPort (dx := dp) (lr := lr) (wc := wc) hi (q := { (Ql46.changed d).1.port (i + 1) with known := true }) hp.lead hp.way
    obtain ⟨dx2, tr2, hb2⟩ := R2.rep.br
    refine ⟨_, rfl, L.b, _, _, rfl, hb2.at_, x_Bridge_tell, _, rfl, _, _, rfl, L, _, i, a, rfl, rfl, hi, R2.rep, ?_, ?_, fun H3 R3 => k _ (R2.trans R3)⟩
    · exact ((ok1.good g).set (i + 1) (q := { (Ql46.changed d).1.port (i + 1) with known := true }) ((ok1.good g).st (i + 1)) (OffP.on (by show ((Ql46.changed d).1.port (i + 1)).state ≠ 0; rw [changed_port]; exact hn)) ((ok1.good g).wt (i + 1))).root
    · have := ok1.few
      show (Ql46.changed d).2.length < _
      omega
  · rw [if_neg (fun z => by rw [z.2] at c; cases c)] at k
    exact k _ R.rp
def sp_stop_being_root (K : PySem.W.Frag) (t : Adr) : Sp := sp1 fun x H Q => ∃ L d, x = .ref L.b ∧ Rep t L H d ∧ d.2.length < 100000 ∧
  ∀ H', Rp t L H H' (let e : Ql46.Doing := ({ d.1 with telling := none }, d.2); if e.1.found = true then Ql46.ask ({ e.1 with changing := none, asking := some 0 }, e.2) else e) → Q .non H'
theorem ok_stop_being_root (T : Txt K mg t) : FnOk P w K mg base CX0 6 t.f_stop_being_root t.fd_stop_being_root ["bridge"] (sp_stop_being_root K t) := by
  refine T.F_stop_being_root.okQ sc_stop_being_root sp1_len (fun cdv A outer s H vs Q E hr h => ?_)
  obtain ⟨x0, rfl, h⟩ := h
  obtain ⟨L, d, rfl, R, hz, k⟩ := h
  obtain ⟨dx, tr, hb⟩ := R.br
  dsimp only at k
  refine ⟨_, (qb_cons (qs_fld (K := K) rfl (qv 0) q_non rfl) (qb_one (qs_if (qt_val (q_fld (K := K) rfl (qv 0) rfl)) (qb_cons (qs_fld (K := K) rfl (qv 0) q_non rfl) (qb_one (qs_expr (q_meth0 (qv 0) T.l_Bridge T.M_Bridge_start_asking (ok_Bridge_start_asking (K := K) T) (hr.mono (by decide)) T.b_Bridge_start_asking .nil pass0)))) qb_nil))), ?_⟩
  refine ⟨_, rfl, L.b, _, dx, _, rfl, hb.at_, T.l_Bridge, T.a_Bridge_telling, few, ?_⟩
  refine ⟨_, rfl, L.b, _, _, _, _, rfl, upd_same, T.l_Bridge, T.a_Bridge_change_found, p_Bridge_telling ▸ g_Bridge_change_found, _, rfl, ?_⟩
  refine ifB (fun c => ?_) (fun c => ?_)
  · rw [if_pos c] at k
    refine ⟨_, rfl, L.b, _, dx, _, rfl, upd_same, T.l_Bridge, T.a_Bridge_changing, few, ?_⟩
    rw [upd_upd]
    have R1 := R.rp.setBr (b := { d.1 with telling := none, changing := none }) (dx := dx) (tr := tr) rfl rfl hb.times
    exact ⟨_, rfl, L.b, _, _, rfl, upd_same, x_Bridge_start_asking, _, rfl, L, _, rfl, R1.rep, hz, fun H2 R2 => k _ (R1.trans R2)⟩
  · rw [if_neg (by rw [c]; exact Bool.false_ne_true)] at k
    exact k _ (R.rp.setBr (b := { d.1 with telling := none }) (dx := dx) (tr := tr) rfl rfl hb.times)
def followed (s : Ql46.Says) (d : Ql46.Doing) : Ql46.Doing :=
  let d := Ql46.tellAll ({ d.1 with maxAge := s.maxAge, hello := s.hello, delay := s.delay, change := s.change }, d.2)
  if s.known = true then ({ d.1 with found := false, asking := none }, d.2) else d
def sp_follow_root (K : PySem.W.Frag) (t : Adr) : Sp := sp2 fun x y H Q => ∃ L d a s lr tr, x = .ref L.b ∧ y = .ref a ∧ Rep t L H d ∧ SaidAt t H a s lr tr ∧ Good d.1 ∧ d.2.length < 90000 ∧ ∀ H', Rp t L H H' (followed s d) → Q .non H'
theorem ok_follow_root (T : Txt K mg t) : FnOk P w K mg base CX0 6 t.f_follow_root t.fd_follow_root ["bridge", "said"] (sp_follow_root K t) := by
  refine T.F_follow_root.okQ sc_follow_root sp2_len (fun cdv A outer s H vs Q E hr h => ?_)
  obtain ⟨x0, x1, rfl, h⟩ := h
  obtain ⟨L, d, a, m, lr, ts, rfl, rfl, R, ⟨⟨ds, ha⟩, hl, ht⟩, g, hz, k⟩ := h
  obtain ⟨dx, tr, hb⟩ := R.br
  unfold followed at k
  dsimp only at k
  have hab : a ≠ L.b := ne_shp ha hb.at_ rfl
  have hnm := R.notMu' ha ⟨rfl, rfl, rfl, rfl, rfl⟩
  refine ⟨_, (qb_cons (qs_fld (K := K) rfl (qv 0) (q_fld (K := K) rfl (qv 1) rfl) rfl) (qb_cons (qs_fld (K := K) rfl (qv 0) (q_fld (K := K) rfl (qv 1) rfl) rfl) (qb_cons (qs_expr (q_meth0 (qv 0) T.l_Bridge T.M_Bridge_all_tell (ok_Bridge_all_tell (K := K) T) (hr.mono (by decide)) T.b_Bridge_all_tell .nil pass0)) (qb_one (qs_if (qt_val (q_fld (K := K) rfl (qv 1) rfl)) (qb_cons (qs_fld (K := K) rfl (qv 0) q_bl rfl) (qb_one (qs_fld (K := K) rfl (qv 0) q_non rfl))) qb_nil))))), ?_⟩
  refine ⟨_, rfl, a, _, _, _, _, rfl, ha, T.l_Said, T.a_Said_times, g_Said_times, _, rfl, L.b, _, dx, _, rfl, hb.at_, T.l_Bridge, T.a_Bridge_times, few, ?_⟩
  refine ⟨_, rfl, a, _, _, _, _, rfl, (upd_ne hab).trans ha, T.l_Said, T.a_Said_change, g_Said_change, _, rfl, L.b, _, dx, _, rfl, upd_same, T.l_Bridge, T.a_Bridge_change_there, few, ?_⟩
  rw [upd_upd]
  have R1 := R.rp.setBr (b := { d.1 with maxAge := m.maxAge, hello := m.hello, delay := m.delay, change := m.change }) (dx := dx) (tr := ts) rfl rfl ht
  have g1 : Good ({ d.1 with maxAge := m.maxAge, hello := m.hello, delay := m.delay, change := m.change } : Ql46.Bridge) := g.of rfl rfl rfl rfl
  refine ⟨_, rfl, L.b, _, _, rfl, upd_same, x_Bridge_all_tell, _, rfl, L, _, rfl, R1.rep, g1, hz, fun H2 R2 => ?_⟩
  have R2 := R1.trans R2
  refine ⟨_, rfl, a, _, _, _, _, rfl, R2.kp _ _ ha hnm, T.l_Said, T.a_Said_known, g_Said_known, _, rfl, ?_⟩
  obtain ⟨dx2, tr2, hb2⟩ := R2.rep.br
  refine ifB (fun c => ?_) (fun c => ?_)
  · rw [if_pos c] at k
    refine ⟨_, rfl, L.b, _, dx2, _, rfl, hb2.at_, T.l_Bridge, T.a_Bridge_change_found, few, ?_⟩
    refine ⟨_, rfl, L.b, _, dx2, _, rfl, upd_same, T.l_Bridge, T.a_Bridge_asking, few, ?_⟩
    rw [upd_upd]
    exact k _ (R2.setBr (b := { (Ql46.tellAll ({ d.1 with maxAge := m.maxAge, hello := m.hello, delay := m.delay, change := m.change }, d.2)).1 with found := false, asking := none }) (dx := dx2) (tr := tr2) rfl rfl hb2.times)
  · rw [if_neg (by rw [c]; exact Bool.false_ne_true)] at k
    exact k _ R2
end
end Tb
local macro_rules | `(tactic| walk_at "ift") => `(tactic| (dsimp only; rw [if_pos rfl]))
local macro_rules | `(tactic| walk_at "iff") => `(tactic| (dsimp only; rw [if_neg Bool.false_ne_true]))
namespace Tb
open PySem PySem.Spec PyProof.Rows L2
def learnt (k : Nat) (s : Ql46.Says) (d : Ql46.Doing) : Ql46.Doing := Ql46.states (Ql46.update (d.1.set k { d.1.port k with root := s.root, cost := s.cost, bridge := s.bridge, port := s.port, age := some s.age }), d.2)
def stopped (was : Bool) (d : Ql46.Doing) : Ql46.Doing := if was = true ∧ d.1.isRoot = false then (let e : Ql46.Doing := ({ d.1 with telling := none }, d.2); if e.1.found = true then Ql46.ask ({ e.1 with changing := none, asking := some 0 }, e.2) else e) else d
def hearB (k : Nat) (s : Ql46.Says) (d : Ql46.Doing) : Ql46.Doing :=
  let d3 := stopped d.1.isRoot (learnt k s d)
  if k = d3.1.rootPort then followed s d3 else d3
theorem stopped_no {was : Bool} {d : Ql46.Doing} (h : ¬ (was = true ∧ d.1.isRoot = false)) : stopped was d = d := if_neg h
theorem stopped_yes {was : Bool} {d : Ql46.Doing} (h1 : was = true) (h2 : d.1.isRoot = false) : stopped was d = (let e : Ql46.Doing := ({ d.1 with telling := none }, d.2); if e.1.found = true then Ql46.ask ({ e.1 with changing := none, asking := some 0 }, e.2) else e) := if_pos ⟨h1, h2⟩
theorem hear_eq (k : Nat) (s : Ql46.Says) (d : Ql46.Doing) (h : (d.1.port k).state ≠ 0) : Ql46.hear k s d = if Ql46.better d.1 k s = true then hearB k s d else if d.1.leads k = true then Ql46.tell k d else d := by
  unfold Ql46.hear hearB stopped learnt followed Ql46.Doing.on
  dsimp only
  rw [if_neg h]
theorem ok_learnt (k : Nat) (s : Ql46.Says) (d : Ql46.Doing) (hn : (d.1.port k).state ≠ 0) : Ok 16 d (learnt k s d) ∨ 16 < d.1.ports.length := by
  by_cases h : d.1.ports.length ≤ 16
  · left
    have h1 := ok_set d k { d.1.port k with root := s.root, cost := s.cost, bridge := s.bridge, port := s.port, age := some s.age } (fun g => g.st k) fun _ => OffP.on hn
    have h2 := h1.trans (ok_update (d.1.set k { d.1.port k with root := s.root, cost := s.cost, bridge := s.bridge, port := s.port, age := some s.age }) d.2)
    have h3 := h2.trans (ok_states _)
    refine h3.mono ?_
    rw [h2.len]
    omega
  · exact .inr (by omega)
theorem ok_stopped (was : Bool) (d : Ql46.Doing) : Ok 1 d (stopped was d) := by
  unfold stopped
  dsimp only
  split
  · split
    · refine ⟨fun g => g.of rfl rfl rfl rfl, rfl, ?_, rfl⟩
      unfold Ql46.ask; rw [List.length_append]; exact Nat.le_refl _
    · exact ⟨fun g => g.of rfl rfl rfl rfl, rfl, Nat.le_succ _, rfl⟩
  · exact (Ok.refl d).mono (by decide)
section
variable {P : Program} {w : World} {K : PySem.W.Frag} {mg : Str → Option Value} {base : Heap} {t : Adr}
theorem SaidAt.keep {L : Lay} {H H' : Hp} {d : Ql46.Doing} {a lr tr : Addr} {s : Ql46.Says} (h : SaidAt t H a s lr tr) (R : Rep t L H d) (kp : Kp L H H') : SaidAt t H' a s lr tr := by
  obtain ⟨⟨d1, h1⟩, ⟨d2, h2⟩, ⟨d3, h3⟩⟩ := h
  exact ⟨⟨d1, kp _ _ h1 (R.notMu' h1 ⟨rfl, rfl, rfl, rfl, rfl⟩)⟩, ⟨d2, kp _ _ h2 (R.notMu' h2 ⟨rfl, rfl, rfl, rfl, rfl⟩)⟩, ⟨d3, kp _ _ h3 (R.notMu' h3 ⟨rfl, rfl, rfl, rfl, rfl⟩)⟩⟩
def sp_take_better (K : PySem.W.Frag) (t : Adr) : Sp := sp3 fun x y z H Q => ∃ L d i a c s lr tr, x = .ref L.b ∧ y = .ref a ∧ z = .ref c ∧ L.ps[i]? = some a ∧ Rep t L H d ∧ SaidAt t H c s lr tr ∧ Good d.1 ∧ (d.1.port (i + 1)).state ≠ 0 ∧ d.2.length < 80000 ∧ ∀ H', Rp t L H H' (hearB (i + 1) s d) → Q .non H'
theorem ok_take_better (T : Txt K mg t) : FnOk P w K mg base CX0 10 t.f_take_better t.fd_take_better ["bridge", "port", "said"] (sp_take_better K t) := by
  refine T.F_take_better.okQ sc_take_better sp3_len (fun cdv A outer s H vs Q E hr h => ?_)
  obtain ⟨x0, x1, x2, rfl, h⟩ := h
  obtain ⟨L, d, i, a, c, m, lr, ts, rfl, rfl, rfl, hi, R, hs, g, hn, hz, k⟩ := h
  have hs' := hs
  obtain ⟨⟨ds, hc⟩, hl, ht⟩ := hs'
  obtain ⟨dx, tr, hb⟩ := R.br
  obtain ⟨dp, lp, wc, hp⟩ := R.po i a hi
  unfold hearB at k
  dsimp only at k
  have hca : c ≠ a := ne_shp hc hp.at_ rfl
  refine ⟨_, (qb_cons (qs_set (i := 3) sc_take_better.nd rfl (Or.inl rfl) (q_meth0 (qv 0) T.l_Bridge T.M_Bridge_is_root (ok_Bridge_is_root (K := K) T) (hr.mono (by decide)) T.b_Bridge_is_root .nil pass0)) (qb_cons (qs_fld (K := K) rfl (qv 1) (q_fld (K := K) rfl (qv 2) rfl) rfl) (qb_cons (qs_fld (K := K) rfl (qv 1) (q_fld (K := K) rfl (qv 2) rfl) rfl) (qb_cons (qs_expr (q_meth0 (qv 0) T.l_Bridge T.M_Bridge_update_tree (ok_Bridge_update_tree (K := K) T) (hr.mono (by decide)) T.b_Bridge_update_tree .nil pass0)) (qb_cons (qs_expr (q_meth0 (qv 0) T.l_Bridge T.M_Bridge_set_states (ok_Bridge_set_states (K := K) T) (hr.mono (by decide)) T.b_Bridge_set_states .nil pass0)) (qb_cons (qs_if (QW.pt (qw_and (qt_val (qv 3)) (qw_and1 (qt_not (qt_val (q_meth0 (qv 0) T.l_Bridge T.M_Bridge_is_root (ok_Bridge_is_root (K := K) T) (hr.mono (by decide)) T.b_Bridge_is_root .nil pass0)))))) (qb_one (qs_expr (q_call (ok_stop_being_root (K := K) T) (hr.mono (by decide)) rfl T.m_stop_being_root T.F_stop_being_root.kp T.b_stop_being_root .nil pass0 (qac (qv 0) qa_nil)))) qb_nil) (qb_one (qs_if (qt_cmp op_eq (q_fld (K := K) rfl (qv 1) rfl) (q_fld (K := K) rfl (qv 0) rfl) (nomark _)) (qb_one (qs_expr (q_call (ok_follow_root (K := K) T) (hr.mono (by decide)) rfl T.m_follow_root T.F_follow_root.kp T.b_follow_root .nil pass0 (qac (qv 0) (qac (qv 2) qa_nil))))) qb_nil)))))))), ?_⟩
  refine ⟨_, rfl, L.b, _, _, rfl, hb.at_, x_Bridge_is_root, _, rfl, L, d, rfl, R, ?_⟩
  refine ⟨_, rfl, c, _, _, _, _, rfl, hc, T.l_Said, T.a_Said_leader, g_Said_leader, _, rfl, a, _, dp, _, rfl, hp.at_, T.l_Port, T.a_Port_leader, few, ?_⟩
  refine ⟨_, rfl, c, _, _, _, _, rfl, (upd_ne hca).trans hc, T.l_Said, T.a_Said_age, g_Said_age, _, rfl, a, _, dp, _, rfl, upd_same, T.l_Port, T.a_Port_age, few, ?_⟩
  rw [upd_upd]
  have R1 := R.rp.setPort (dx := dp) (lr := lr) (wc := wc) hi (q := { d.1.port (i + 1) with root := m.root, cost := m.cost, bridge := m.bridge, port := m.port, age := some m.age }) hl hp.way
  have g1 : Good (d.1.set (i + 1) { d.1.port (i + 1) with root := m.root, cost := m.cost, bridge := m.bridge, port := m.port, age := some m.age }) := g.set (i + 1) (g.st (i + 1)) (OffP.on hn)
  obtain ⟨dx1, tr1, hb1⟩ := R1.rep.br
  refine ⟨_, rfl, L.b, _, _, rfl, hb1.at_, x_Bridge_update_tree, _, rfl, L, _, rfl, R1.rep, g1, by show d.2.length < _; omega, fun H2 R2 => ?_⟩
  have R2 := R1.trans R2
  have ok2 := ok_update (d.1.set (i + 1) { d.1.port (i + 1) with root := m.root, cost := m.cost, bridge := m.bridge, port := m.port, age := some m.age }) d.2
  obtain ⟨dx2, tr2, hb2⟩ := R2.rep.br
  refine ⟨_, rfl, L.b, _, _, rfl, hb2.at_, x_Bridge_set_states, _, rfl, L, _, rfl, R2.rep, ok2.good g1, by show d.2.length < _; omega, fun H3 R3 => ?_⟩
  have R3 : Rp t L H H3 (learnt (i + 1) m d) := R2.trans R3
  have ok3 : Ok 16 d (learnt (i + 1) m d) := (ok_learnt (i + 1) m d hn).resolve_right (by have := g.few; omega)
  have hs3 := hs.keep R R3.kp
  obtain ⟨dx3, tr3, hb3⟩ := R3.rep.br
  have hf3 := ok3.few
  have last : ∀ (D : Ends) (H4 : Hp) (d4 : Ql46.Doing) (v : Option V), Rp t L H H4 d4 → Good d4.1 → d4.2.length < 90000 → (∀ H', Rp t L H H' (if i + 1 = d4.1.rootPort then followed m d4 else d4) → D.nx [some (.ref L.b), some (.ref a), some (.ref c), v] H') →
      tIfS (tTest (tOp rEq (tFld K (tVar 1) "place") (tFld K (tVar 0) "root_port"))) (tDrop (tCall (sp_follow_root K t) [] E0 (tCons (tVar 0) (tCons (tVar 2) tNil)))) tNext D [some (.ref L.b), some (.ref a), some (.ref c), v] H4 := fun D H4 d4 v R4 g4 hz4 kD => by
    obtain ⟨dp, lp, wc, hp⟩ := R4.rep.po i a hi
    obtain ⟨dx4, tr4, hb4⟩ := R4.rep.br
    refine ⟨_, rfl, a, _, _, _, _, rfl, hp.at_, T.l_Port, T.a_Port_place, g_Port_place, _, rfl, L.b, _, _, _, _, rfl, hb4.at_, T.l_Bridge, T.a_Bridge_root_port, g_Bridge_root_port, rfl, _, rfl, ?_⟩
    rw [int_beq]
    refine ifB (fun c1 => ?_) (fun c1 => ?_)
    · rw [if_pos (eq_of_beq c1)] at kD
      exact ⟨_, rfl, _, rfl, _, _, rfl, L, d4, c, m, lr, ts, rfl, rfl, R4.rep, hs.keep R R4.kp, g4, hz4, fun H5 R5 => kD _ (R4.trans R5)⟩
    · rw [if_neg (fun e => by rw [e, beq_self_eq_true] at c1; cases c1)] at kD
      exact kD _ R4
  refine ⟨_, rfl, _, rfl, ?_⟩
  refine ifB (fun c1 => ?_) (fun c1 => ?_)
  · refine ⟨_, rfl, L.b, _, _, rfl, hb3.at_, x_Bridge_is_root, _, rfl, L, _, rfl, R3.rep, _, rfl, ?_⟩
    refine ifB (fun c2 => ?_) (fun c2 => ?_)
    · have c3 : (learnt (i + 1) m d).1.isRoot = false := by
        cases e : (learnt (i + 1) m d).1.isRoot
        · rfl
        · rw [e] at c2; cases c2
      refine ⟨_, rfl, _, rfl, L, _, rfl, R3.rep, by omega, fun H4 R4 => ?_⟩
      have R4 : Rp t L H3 H4 (stopped d.1.isRoot (learnt (i + 1) m d)) := by rw [stopped_yes c1 c3]; exact R4
      have ok4 := ok_stopped d.1.isRoot (learnt (i + 1) m d)
      have hf4 := ok4.few
      generalize stopped d.1.isRoot (learnt (i + 1) m d) = d4 at *
      exact last _ H4 d4 _ (R3.trans R4) (ok4.good (ok3.good g)) (by omega) k
    · have c3 : ¬ ((d.1.isRoot = true) ∧ (learnt (i + 1) m d).1.isRoot = false) := fun z => by
        rw [z.2] at c2; cases c2
      rw [stopped_no c3] at k
      exact last _ H3 _ _ R3 (ok3.good g) (by omega) k
  · have c3 : ¬ ((d.1.isRoot = true) ∧ (learnt (i + 1) m d).1.isRoot = false) := fun z => by
      rw [z.1] at c1; cases c1
    rw [stopped_no c3] at k
    walk_at "iff"
    exact last _ H3 _ _ R3 (ok3.good g) (by omega) k
end
end Tb
local macro_rules | `(tactic| walk_at "ift") => `(tactic| (dsimp only; rw [if_pos rfl]))
local macro_rules | `(tactic| walk_at "iff") => `(tactic| (dsimp only; rw [if_neg Bool.false_ne_true]))
namespace Tb
open PySem PySem.Spec PyProof.Rows L2
theorem vals_of_items {n : Nat} : ∀ (xs : List V) (us : List Value), us.length = xs.length → (∀ (j : Nat) (u : Value), us[j]? = some u → ∃ x, xs[j]? = some x ∧ RelV x u) → Vals xs us
  | [], [], _, _ => .nil
  | [], _ :: _, h, _ => by cases h
  | _ :: _, [], h, _ => by cases h
  | x :: xs, u :: us, h, k => by
    obtain ⟨y, e, r⟩ := k 0 u rfl
    cases e
    exact .cons r (vals_of_items (n := n) xs us (Nat.succ.inj h) fun j v e => k (j + 1) v e)
theorem call_list_dict {X : Cx} (hc : X.calm = true) : CallR X (.type "list") (fun xs H Q => ∃ a kvs, xs = [.ref a] ∧ H a = some (.dK kvs) ∧ ∀ l, H l = none → Q (.ref l) (upd H l (.lst (kvs.map fun kv => kV kv.1)))) := by
  intro pins s σ H xs us Q I r h
  obtain ⟨a, kvs, rfl, ha, q⟩ := h
  obtain ⟨u, rfl, rx⟩ := vals1 r
  cases rx
  obtain ⟨z, lo, vs, rel, dd⟩ := dk_of I.hok ha
  obtain ⟨ep, hat⟩ := dd.dictAt
  have hl : kvs.length = vs.length := Paired.length rel
  refine PySem.W.kdl_call (PySem.W.kdl_dict (knd := mixKind X.prog X.w) (kvs := vs) (ep := ep) lo) (I.ok.hd hc) hat (by rw [← hl]; exact z) fun h' tk acc' c' hk hS hacc => ?_
  refine ⟨.ref s.heap.objs.size, _, I.laid (t' := tk) hk (Nat.le_refl _) (show ObjOk X.prog X.w _ h' _ (.lst (kvs.map fun kv => kV kv.1)) from ⟨by rw [List.length_map]; exact z, acc'.toList, c', ?_, by simpa using hS⟩), rfl, q _ (I.hok.fresh (Nat.le_refl _))⟩
  refine vals_of_items (n := 0) _ _ (by rw [List.length_map, Array.length_toList, hl]; exact hacc.1) fun j u e => ?_
  obtain ⟨k, x, h1, h2⟩ := hacc.2 j u (by rw [← Array.getElem?_toList]; exact e)
  have hj : j < kvs.length := by rw [hl]; exact (List.getElem?_eq_some_iff.mp h1).1
  obtain ⟨⟨k', v'⟩, hkv⟩ : ∃ p, kvs[j]? = some p := ⟨_, List.getElem?_eq_getElem hj⟩
  refine ⟨kV k, ?_, relV_key h2⟩
  rw [List.getElem?_map, hkv]
  have : k' = k := by
    obtain ⟨q, hq, hr⟩ := kv_get rel hkv
    rw [h1] at hq
    cases hq
    rfl
  rw [← this]; rfl
structure TabOk (b : Ql46.Bridge) : Prop where
  nd : (b.table.map (·.1)).Nodup
  most : b.table.length ≤ 1024
  pos : ∀ x ∈ b.table, 1 ≤ x.2.1
  grp : ∀ x ∈ b.table, ¬ x.1 / 2 ^ 40 % 2 = 1
theorem TabOk.of {b b' : Ql46.Bridge} (h : TabOk b) (e : b'.table = b.table) : TabOk b' := ⟨by rw [e]; exact h.nd, by rw [e]; exact h.most, by rw [e]; exact h.pos, by rw [e]; exact h.grp⟩
abbrev TF (H : Hp) (x : Nat × Nat × Nat) (kv : Key × V) : Prop := kv.1 = Sum.inl (x.1 : Int) ∧ ∃ a, kv.2 = .ref a ∧ H a = some (.tup [.int (x.2.1 : Nat), .int (x.2.2 : Nat)])
section
variable {H : Hp}
theorem tf_ne {x : Nat × Nat × Nat} {kv : Key × V} {a : Nat} (h : TF H x kv) : kv.1 = Sum.inl (a : Int) ↔ x.1 = a := by
  rw [h.1]
  constructor
  · intro e; have := Sum.inl.inj e; omega
  · intro e; rw [e]
theorem tf_some {a : Nat} {v : V} : ∀ {l : List (Nat × Nat × Nat)} {kvs : List (Key × V)}, Paired (TF H) l kvs → valV kvs (Sum.inl (a : Int)) = some v → ∃ x ∈ l, x.1 = a ∧ ∃ r, v = .ref r ∧ H r = some (.tup [.int (x.2.1 : Nat), .int (x.2.2 : Nat)])
  | _, _, .nil, e => by cases e
  | x :: l, kv :: kvs, .cons h p, e => by
    by_cases c : kv.1 = Sum.inl (a : Int)
    · rw [valV_pos c] at e
      cases e
      exact ⟨x, .head _, (tf_ne h).mp c, h.2⟩
    · rw [valV_neg c] at e
      obtain ⟨y, hy, q⟩ := tf_some p e
      exact ⟨y, .tail _ hy, q⟩
theorem tf_none {a : Nat} : ∀ {l : List (Nat × Nat × Nat)} {kvs : List (Key × V)}, Paired (TF H) l kvs → valV kvs (Sum.inl (a : Int)) = none → ∀ x ∈ l, x.1 ≠ a
  | _, _, .nil, _, x, hx => by cases hx
  | x :: l, kv :: kvs, .cons h p, e, y, hy => by
    by_cases c : kv.1 = Sum.inl (a : Int)
    · rw [valV_pos c] at e
      cases e
    · rw [valV_neg c] at e
      rcases List.mem_cons.mp hy with rfl | hy
      · exact fun z => c ((tf_ne h).mpr z)
      · exact tf_none p e y hy
theorem tf_drop {a : Nat} : ∀ {l : List (Nat × Nat × Nat)} {kvs : List (Key × V)}, Paired (TF H) l kvs → Paired (TF H) (l.filter fun x => x.1 != a) (dropK kvs (Sum.inl (a : Int)))
  | _, _, .nil => .nil
  | x :: l, kv :: kvs, .cons h p => by
    by_cases c : kv.1 = Sum.inl (a : Int)
    · rw [dropK_pos c, List.filter_cons, if_neg (by rw [(tf_ne h).mp c]; simp)]
      exact tf_drop p
    · rw [dropK_neg c, List.filter_cons, if_pos (bne_iff_ne.mpr fun z => c ((tf_ne h).mpr z))]
      exact .cons h (tf_drop p)
theorem paired_keys : ∀ {l : List (Nat × Nat × Nat)} {kvs : List (Key × V)}, Paired (TF H) l kvs → kvs.map (·.1) = (l.map (·.1)).map fun (n : Nat) => (Sum.inl (n : Int) : Key)
  | _, _, .nil => rfl
  | x :: l, kv :: kvs, .cons h p => by
    rw [List.map_cons, List.map_cons, List.map_cons, paired_keys p, h.1]
theorem valV_drop {κ : Type} [DecidableEq κ] (k : κ) : ∀ kvs : List (κ × V), valV (dropK kvs k) k = none
  | [] => rfl
  | p :: r => by
    by_cases c : p.1 = k
    · rw [dropK_pos c]; exact valV_drop k r
    · rw [dropK_neg c, valV_neg c]; exact valV_drop k r
theorem find_nd {α : Type} {tab : List (Nat × α)} {x : Nat × α} {a : Nat} : (tab.map (·.1)).Nodup → x ∈ tab → x.1 = a → tab.find? (fun y => y.1 == a) = some x := by
  induction tab with
  | nil => intro _ h; cases h
  | cons y r ih =>
    intro nd hx e
    rw [List.map_cons, List.nodup_cons] at nd
    rcases List.mem_cons.mp hx with rfl | hx
    · rw [List.find?_cons, e, beq_self_eq_true]
    · rw [List.find?_cons]
      have : y.1 ≠ a := fun z => nd.1 (List.mem_map.mpr ⟨x, hx, by rw [e, z]⟩)
      rw [beq_eq_false_iff_ne.mpr this]
      exact ih nd.2 hx e
theorem find_no {α : Type} {tab : List (Nat × α)} {a : Nat} (h : ∀ x ∈ tab, x.1 ≠ a) : tab.find? (fun y => y.1 == a) = none :=
  List.find?_eq_none.mpr fun x hx => by simpa using h x hx
end
section
variable {t : Adr} {L : Lay} {H H0 : Hp} {d : Ql46.Doing}
theorem Rep.setTab (R : Rep t L H d) {kvs : List (Key × V)} {tab : List (Nat × Nat × Nat)} (p : Paired (TF H) tab.reverse kvs) : Rep t L (upd H L.hd (.dK kvs)) ({ d.1 with table := tab }, d.2) := by
  obtain ⟨k0, h0, _⟩ := R.tab
  have kp : ∀ c o, H c = some o → Nat.beq (shp o) 102 = false → upd H L.hd (.dK kvs) c = some o := fun c o e hs => by
    rw [upd_ne (ne_shp e h0 hs)]; exact e
  refine ⟨?_, kp _ _ R.pl rfl, R.nd, R.len, fun j c hj => ?_, ?_, ⟨kvs, upd_same, paired_imp p fun _ _ ⟨e1, a, e2, e3⟩ => ⟨e1, a, e2, kp _ _ e3 rfl⟩⟩, ?_, R.ne⟩
  · obtain ⟨dx, tr, h⟩ := R.br
    exact ⟨dx, tr, kp _ _ h.at_ rfl, let ⟨dd, e⟩ := h.times; ⟨dd, kp _ _ e rfl⟩⟩
  · obtain ⟨dx', lr', wc', h'⟩ := R.po j c hj
    exact ⟨dx', lr', wc', kp _ _ h'.at_ rfl, let ⟨dd, e⟩ := h'.lead; ⟨dd, kp _ _ e rfl⟩, h'.way⟩
  · obtain ⟨dd, e⟩ := R.ad
    exact ⟨dd, kp _ _ e rfl⟩
  · exact R.sent.keep (fun _ e => kp _ _ e rfl) (fun _ _ e => kp _ _ e rfl) (fun _ _ _ e => kp _ _ e rfl)
theorem Rp.setTab (R : Rp t L H0 H d) {kvs : List (Key × V)} {tab : List (Nat × Nat × Nat)} (p : Paired (TF H) tab.reverse kvs) : Rp t L H0 (upd H L.hd (.dK kvs)) ({ d.1 with table := tab }, d.2) :=
  ⟨R.rep.setTab p, fun x o e m => by rw [upd_ne (fun z => m (.inr (.inr (.inl z))))]; exact R.kp x o e m⟩
end
def heardTab (tab : List (Nat × Nat × Nat)) (a k : Nat) : List (Nat × Nat × Nat) := (a, k, 0) :: tab.filter fun x => x.1 != a
theorem learn_eq (b : Ql46.Bridge) (k a : Nat) : Ql46.learn b k a = if a / 2 ^ 40 % 2 = 1 then b else { b with table := (heardTab b.table a k).take 1024 } := rfl
section
variable {P : Program} {w : World} {K : PySem.W.Frag} {mg : Str → Option Value} {base : Heap} {t : Adr}
def sp_Addresses_hear (K : PySem.W.Frag) (t : Adr) : Sp := sp3 fun x y z H Q => ∃ L d, ∃ a k : Nat, x = .ref L.ad ∧ y = .int (a : Nat) ∧ z = .int (k : Nat) ∧ Rep t L H d ∧ TabOk d.1 ∧ ∀ H', Rp t L H H' (Ql46.learn d.1 k a, d.2) → Q .non H'
theorem ok_Addresses_hear (T : Txt K mg t) : FnOk P w K mg base CX0 1 t.f_Addresses_hear t.fd_Addresses_hear ["self", "address", "place"] (sp_Addresses_hear K t) := by
  refine T.F_Addresses_hear.okQ sc_Addresses_hear sp3_len (fun cdv A outer s H vs Q E hr h => ?_)
  obtain ⟨x0, x1, x2, rfl, h⟩ := h
  obtain ⟨L, d, a, k0, rfl, rfl, rfl, R, tk, k⟩ := h
  obtain ⟨da, hA⟩ := R.ad
  obtain ⟨kvs, hd, pr⟩ := R.tab
  rw [learn_eq] at k
  refine ⟨_, (qb_cons (qs_if (qt_cmp op_ne (q_op op_and (qv 1) (q_gi rfl T.c_GROUP_BIT)) q_int (nomark _)) (qb_one qs_retN) qb_nil) (qb_cons (qs_expr (q_dpop2 (q_fld (K := K) rfl (qv 0) rfl) (qv 1) q_non ⟨rfl, rfl, rfl, rfl⟩)) (qb_cons (qs_dput (hu_of hr) (q_fld (K := K) rfl (qv 0) rfl) (qv 1) (q_tup (qac (qv 2) (qac q_int qa_nil))) rfl) (qb_one (qs_if (qt_cmp op_gt (q_callB call_lenD rfl T.n_len PySem.boot_len (qac (q_fld (K := K) rfl (qv 0) rfl) qa_nil)) (q_gi rfl T.c_MOST_ADDRESSES) (nomark _)) (qb_one (qs_expr (q_dpop1 (q_fld (K := K) rfl (qv 0) rfl) (q_ix (k_ixl (K := K) rfl) (q_callTy (call_list_dict rfl) rfl T.n_list PyProof.Rows.boot_list (qac (q_fld (K := K) rfl (qv 0) rfl) qa_nil)) q_int (fun _ _ => rfl)) ⟨rfl, rfl, rfl, rfl⟩))) qb_nil))))), ?_⟩
  refine ⟨_, rfl, _, _, rfl, rfl, rfl, _, rfl, ?_⟩
  have eb : (!decide (V.int (Builtin.bitAnd (a : Int) 1099511627776) = V.int 0)) = (a / 2 ^ 40 % 2 == 1) := bitB a 40
  dsimp only
  rw [eb]
  refine ifB (fun c => ?_) (fun c => ?_)
  · rw [if_pos (eq_of_beq c)] at k
    exact k _ R.rp
  rw [if_neg (fun e => by rw [e] at c; cases c)] at k
  have rest : ∀ (H1 : Hp) (kv1 : List (Key × V)), Rp t L H H1 ({ d.1 with table := d.1.table.filter fun x => x.1 != a }, d.2) → H1 L.hd = some (.dK kv1) → Paired (TF H1) (d.1.table.filter fun x => x.1 != a).reverse kv1 → valV kv1 (Sum.inl (a : Int)) = none →
      tSeq (sDPut (tFld K (tVar 0) "heard") (tVar 1) (tTup (tCons (tVar 2) (tCons (tC (.int 0)) tNil))))
        (tIfS (tTest (tOp (rI0 fun i j => V.bl (decide (j < i))) (tCB (fun xs H Q => ∃ a kvs, xs = [V.ref a] ∧ H a = some (HO.dK kvs) ∧ Q (V.int kvs.length) H) (tCons (tFld K (tVar 0) "heard") tNil)) (tC (.int 1024))))
          (tDrop (tDPop1 (tFld K (tVar 0) "heard") (tOp (rIxL K) (tCB (fun xs H Q => ∃ a kvs, xs = [V.ref a] ∧ H a = some (HO.dK kvs) ∧ ∀ l, H l = none → Q (V.ref l) (upd H l (HO.lst (kvs.map fun kv => kV kv.1)))) (tCons (tFld K (tVar 0) "heard") tNil)) (tC (.int 0))))) tNext)
        { nx := fun _ H' => Q .non H', rt := Q } [some (.ref L.ad), some (.int (a : Nat)), some (.int (k0 : Nat))] H1 := fun H1 kv1 R1 hd1 pr1 hv1 => by
    have hlen1 : kv1.length = (d.1.table.filter fun x => x.1 != a).length := by rw [← paired_len pr1, List.length_reverse]
    have hle : (d.1.table.filter fun x => x.1 != a).length ≤ 1024 := Nat.le_trans (List.length_filter_le _ _) tk.most
    refine ⟨_, rfl, sz, fun p hp => ?_⟩
    have S := Same.new (o := .tup [.int (k0 : Int), .int 0]) hp
    have R2 := R1.same S
    have hp2 : upd H1 p (.tup [.int (k0 : Int), .int 0]) p = some (.tup [.int (k0 : Int), .int 0]) := upd_same
    have pr2 := paired_imp pr1 fun _ _ ⟨e1, r, e2, e3⟩ => (⟨e1, r, e2, S _ _ e3⟩ : TF _ _ _)
    have hd2 := S _ _ hd1
    generalize upd H1 p (.tup [.int (k0 : Int), .int 0]) = H2 at S R2 hp2 pr2 hd2
    obtain ⟨da, hA⟩ := R2.rep.ad
    refine ⟨_, rfl, L.ad, _, _, _, _, rfl, hA, T.l_Addresses, T.a_Addresses_heard, g_Addresses_heard, _, rfl, L.hd, _, rfl, DPut.k (k := Sum.inl (a : Int)) hd2 (by rw [hlen1]; exact Nat.lt_of_le_of_lt hle (by decide)), ?_⟩
    rw [putK_new _ hv1]
    have pr3 : Paired (TF H2) (heardTab d.1.table a k0).reverse (kv1 ++ [(Sum.inl (a : Int), .ref p)]) := by
      unfold heardTab
      rw [List.reverse_cons]
      exact paired_snoc ⟨rfl, p, rfl, hp2⟩ pr2
    have R3 := R2.setTab (tab := heardTab d.1.table a k0) pr3
    have hd3 : upd H2 L.hd (.dK (kv1 ++ [(Sum.inl (a : Int), .ref p)])) L.hd = some (.dK (kv1 ++ [(Sum.inl (a : Int), .ref p)])) := upd_same
    have pr3' : Paired (TF (upd H2 L.hd (.dK (kv1 ++ [(Sum.inl (a : Int), .ref p)])))) (heardTab d.1.table a k0).reverse (kv1 ++ [(Sum.inl (a : Int), .ref p)]) := paired_imp pr3 fun _ _ ⟨e1, r, e2, e3⟩ => ⟨e1, r, e2, by rw [upd_ne (ne_shp e3 hd2 rfl)]; exact e3⟩
    obtain ⟨da3, hA3⟩ := R3.rep.ad
    have hlen3 : (kv1 ++ [((Sum.inl (a : Int) : Key), V.ref p)]).length = (d.1.table.filter fun x => x.1 != a).length + 1 := by rw [List.length_append, hlen1]; rfl
    generalize upd H2 L.hd (.dK (kv1 ++ [(Sum.inl (a : Int), .ref p)])) = H3 at R3 hd3 pr3' hA3
    refine ⟨_, rfl, L.ad, _, _, _, _, rfl, hA3, T.l_Addresses, T.a_Addresses_heard, g_Addresses_heard, L.hd, _, rfl, hd3, _, _, rfl, rfl, _, rfl, ?_⟩
    have hl3 : (heardTab d.1.table a k0).length = (d.1.table.filter fun x => x.1 != a).length + 1 := rfl
    refine ifD (fun c2 => ?_) (fun c2 => ?_)
    · have c2 : 1024 < (d.1.table.filter fun x => x.1 != a).length + 1 := by rw [hlen3] at c2; omega
      obtain ⟨kv0, kvr, ekv⟩ : ∃ kv0 kvr, kv1 ++ [((Sum.inl (a : Int) : Key), V.ref p)] = kv0 :: kvr := by
        cases h : kv1 ++ [((Sum.inl (a : Int) : Key), V.ref p)] with
        | nil => rw [h] at hlen3; cases hlen3
        | cons x y => exact ⟨x, y, rfl⟩
      rw [ekv] at hd3 pr3'
      refine ⟨_, rfl, L.ad, _, _, _, _, rfl, hA3, T.l_Addresses, T.a_Addresses_heard, g_Addresses_heard, L.hd, rfl, .inl ⟨_, .inl hd3⟩, _, rfl, L.ad, _, _, _, _, rfl, hA3, T.l_Addresses, T.a_Addresses_heard, g_Addresses_heard, L.hd, _, rfl, hd3, fun l hl => ?_⟩
      have S4 := Same.new (o := .lst ((kv0 :: kvr).map fun kv => kV kv.1)) hl
      refine ⟨l, _, _, kV kv0.1, rfl, rfl, SqL.of upd_same, at_of (j := 0) rfl rfl, kv0 :: kvr, kv0.1, kv0.2, S4 _ _ hd3, rfl, valV_pos rfl, ?_⟩
      have R4 := R3.same S4
      have pr4 := paired_imp pr3' fun _ _ ⟨e1, r, e2, e3⟩ => (⟨e1, r, e2, S4 _ _ e3⟩ : TF _ _ _)
      generalize upd H3 l (.lst ((kv0 :: kvr).map fun kv => kV kv.1)) = H4 at S4 R4 pr4
      have ndk : ((kv0 :: kvr).map (·.1)).Nodup := by
        rw [← ekv]
        have e1 : (kv1 ++ [((Sum.inl (a : Int) : Key), V.ref p)]).map (·.1) = ((heardTab d.1.table a k0).reverse.map (·.1)).map fun (n : Nat) => (Sum.inl (n : Int) : Key) := by
          exact paired_keys pr3
        rw [e1, List.map_reverse]
        have nd1 : ((heardTab d.1.table a k0).map (·.1)).Nodup := by
          unfold heardTab
          rw [List.map_cons, List.nodup_cons]
          refine ⟨fun m => ?_, (List.Sublist.map _ List.filter_sublist).nodup tk.nd⟩
          obtain ⟨x, hx, e⟩ := List.mem_map.mp m
          have := (List.mem_filter.mp hx).2
          rw [e] at this
          simp at this
        refine List.pairwise_map.mpr ((List.pairwise_reverse.mpr (nd1.imp fun h => Ne.symm h)).imp fun h e => h ?_)
        have := Sum.inl.inj e
        omega
      have edrop : dropK (kv0 :: kvr) kv0.1 = kvr := by
        rw [List.map_cons, List.nodup_cons] at ndk
        rw [dropK_pos rfl, dropK_no ndk.1]
      rw [edrop]
      have e5 : (heardTab d.1.table a k0).take 1024 = (heardTab d.1.table a k0).dropLast := by
        rw [List.dropLast_eq_take, hl3]
        congr 1
        omega
      have R5 : Rp t L H (upd H4 L.hd (.dK kvr)) ({ d.1 with table := (heardTab d.1.table a k0).take 1024 }, d.2) := by
        refine R4.setTab (tab := (heardTab d.1.table a k0).take 1024) ?_
        rw [e5, ← List.tail_reverse]
        revert pr4
        cases (heardTab d.1.table a k0).reverse with
        | nil => intro q; cases q
        | cons y r => intro q; cases q with | cons _ q => exact q
      exact k _ R5
    · have c2 : ¬ 1024 < (d.1.table.filter fun x => x.1 != a).length + 1 := by rw [hlen3] at c2; omega
      have e5 : (heardTab d.1.table a k0).take 1024 = heardTab d.1.table a k0 := List.take_of_length_le (by rw [hl3]; omega)
      rw [e5] at k
      exact k _ R3
  refine ⟨_, rfl, L.ad, _, _, _, _, rfl, hA, T.l_Addresses, T.a_Addresses_heard, g_Addresses_heard, L.hd, rfl, .inl ⟨kvs, .inl hd⟩, _, rfl, kvs, Sum.inl (a : Int), hd, rfl, fun v hv => ?_, fun hv => ?_⟩
  · have pr1 : Paired (TF H) (d.1.table.filter fun x => x.1 != a).reverse (dropK kvs (Sum.inl (a : Int))) := by
      rw [← List.filter_reverse]
      exact tf_drop pr
    have R1 := R.rp.setTab (tab := d.1.table.filter fun x => x.1 != a) pr1
    refine rest _ _ R1 upd_same (paired_imp pr1 fun _ _ ⟨e1, r, e2, e3⟩ => ⟨e1, r, e2, by rw [upd_ne (ne_shp e3 hd rfl)]; exact e3⟩) (valV_drop _ _)
  · have e1 : (d.1.table.filter fun x => x.1 != a) = d.1.table := List.filter_eq_self.mpr fun x hx => bne_iff_ne.mpr (tf_none pr hv x (List.mem_reverse.mpr hx))
    refine rest H kvs ?_ hd (by rw [e1]; exact pr) hv
    rw [e1]
    exact R.rp
end
end Tb
local macro_rules | `(tactic| walk_at "ift") => `(tactic| (dsimp only; rw [if_pos rfl]))
local macro_rules | `(tactic| walk_at "iff") => `(tactic| (dsimp only; rw [if_neg Bool.false_ne_true]))
namespace Tb
open PySem PySem.Spec PyProof.Rows L2
theorem for_items {d : Addr} {o : Obj} {kvs : List (Key × V)} {g : TG} {tb : TS} {D : Ends} {σ : L2.St} {H : Hp} (Pv : Nat → L2.St → Hp → Prop) (h0 : Pv 0 σ H) (hl : ∀ i σ H, i ≤ kvs.length → Pv i σ H → H d = some (.frz o (.dK kvs)))
    (hs : ∀ i k v σ H T, kvs[i]? = some (k, v) → Pv i σ H → H T = none → g (.ref T) σ (upd H T (.tup [kV k, v])) fun σ2 H2 => tb { D with nx := Pv (i + 1), ct := Pv (i + 1), bk := D.nx } σ2 H2) (hd : ∀ σ H, Pv kvs.length σ H → D.nx σ H) :
    ∃ W : Nat → Nat → L2.St → Hp → Prop, (∃ m, W 0 m σ H) ∧ ∀ i m σ H, W i m σ H →
      ((Iti d o kvs).stop i H ∧ D.nx σ H) ∨ ((Iti d o kvs).go i H ∧ ∃ N : L2.St → Hp → Prop, (∀ σ' H', N σ' H' → ∃ m', m' < m ∧ W (i + 1) m' σ' H') ∧ ∀ x H', (Iti d o kvs).yld i H x H' → g x σ H' fun σ2 H2 => tb { D with nx := N, ct := N, bk := D.nx } σ2 H2) := by
  refine ⟨fun i m σ H => m = kvs.length - i ∧ i ≤ kvs.length ∧ Pv i σ H, ⟨kvs.length, by simp, Nat.zero_le _, h0⟩, ?_⟩
  rintro i m σ H ⟨rfl, hi, p⟩
  have q := hl i σ H hi p
  by_cases hlt : i < kvs.length
  · refine .inr ⟨⟨q, hlt⟩, Pv (i + 1), fun σ' H' p' => ⟨kvs.length - (i + 1), by omega, rfl, hlt, p'⟩, fun x H' y => ?_⟩
    obtain ⟨T, k, v, e, rfl, hT, rfl⟩ := y
    exact hs i k v σ H T e p hT
  · have e : i = kvs.length := by omega
    subst e
    exact .inl ⟨⟨q, Nat.le_refl _⟩, hd σ H p⟩
section
variable {t : Adr} {L : Lay} {H H' : Hp} {d : Ql46.Doing}
theorem Rep.relay (R : Rep t L H d) {q dx : Addr} {tab : List (Nat × Nat × Nat)} (kp : ∀ b o, H b = some o → b ≠ L.ad → H' b = some o) (ha : H' L.ad = some (.ins t.C_Addresses dx (fl_Addresses (.ref q)))) (ht : TabAt H' q tab) :
    Rep t { L with hd := q } H' ({ d.1 with table := tab }, d.2) := by
  obtain ⟨da, hA⟩ := R.ad
  have ks : ∀ b o, H b = some o → Nat.beq (shp o) 1 = false → H' b = some o := fun b o e hs => kp b o e (ne_shp e hA hs)
  refine ⟨?_, ks _ _ R.pl rfl, R.nd, R.len, fun j c hj => ?_, ⟨dx, ha⟩, ht, ?_, R.ne⟩
  · obtain ⟨dx, tr, h⟩ := R.br
    exact ⟨dx, tr, ks _ _ h.at_ rfl, let ⟨dd, e⟩ := h.times; ⟨dd, ks _ _ e rfl⟩⟩
  · obtain ⟨dx', lr', wc', h'⟩ := R.po j c hj
    exact ⟨dx', lr', wc', ks _ _ h'.at_ rfl, let ⟨dd, e⟩ := h'.lead; ⟨dd, ks _ _ e rfl⟩, h'.way⟩
  · exact R.sent.keep (fun _ e => ks _ _ e rfl) (fun _ _ e => ks _ _ e rfl) (fun _ _ _ e => ks _ _ e rfl)
end
def placeOf (tab : List (Nat × Nat × Nat)) (a : Nat) : Nat := match tab.find? fun x => x.1 == a with
  | some x => x.2.1
  | none => 0
theorem paired_ix {α β : Type} {F : α → β → Prop} : ∀ {l : List α} {m : List β} {i : Nat} {b : β}, Paired F l m → m[i]? = some b → ∃ a, l[i]? = some a ∧ F a b
  | _, _, _, _, .nil, e => by cases e
  | a :: l, b :: m, 0, _, .cons h p, e => by cases e; exact ⟨a, rfl, h⟩
  | a :: l, b :: m, i + 1, c, .cons h p, e => by
    obtain ⟨x, h1, h2⟩ := paired_ix (l := l) (m := m) (i := i) (b := c) p e
    exact ⟨x, h1, h2⟩
section
variable {P : Program} {w : World} {K : PySem.W.Frag} {mg : Str → Option Value} {base : Heap} {t : Adr}
def sp_Addresses_init (K : PySem.W.Frag) (t : Adr) : Sp := sp1 fun x H Q => ∃ p dx, x = .ref p ∧ H p = some (.ins t.C_Addresses dx []) ∧ ∀ q, H q = none → Q .non (upd (upd H q (.dK [])) p (.ins t.C_Addresses dx (fl_Addresses (.ref q))))
theorem ok_Addresses_init (T : Txt K mg t) : FnOk P w K mg base CX0 1 t.f_Addresses_init t.fd_Addresses_init ["self"] (sp_Addresses_init K t) := by
  refine T.F_Addresses_init.okQ sc_Addresses_init sp1_len (fun cdv A outer s H vs Q E hr h => ?_)
  obtain ⟨x0, rfl, h⟩ := h
  obtain ⟨p, dx, rfl, hp, k⟩ := h
  refine ⟨_, (qb_one (qs_fld (K := K) rfl (qv 0) q_dnew rfl)), ?_⟩
  intro q hq
  exact ⟨_, rfl, p, _, dx, _, rfl, Same.new hq _ _ hp, T.l_Addresses, T.a_Addresses_heard, few, k q hq⟩
def sp_Addresses_place_of (K : PySem.W.Frag) (t : Adr) : Sp := sp2 fun x y H Q => ∃ L d, ∃ a : Nat, x = .ref L.ad ∧ y = .int (a : Nat) ∧ Rep t L H d ∧ TabOk d.1 ∧ ∀ H', Same H H' → Q (.int (placeOf d.1.table a : Nat)) H'
theorem ok_Addresses_place_of (T : Txt K mg t) : FnOk P w K mg base CX0 1 t.f_Addresses_place_of t.fd_Addresses_place_of ["self", "address"] (sp_Addresses_place_of K t) := by
  refine T.F_Addresses_place_of.okQ sc_Addresses_place_of sp2_len (fun cdv A outer s H vs Q E hr h => ?_)
  obtain ⟨x0, x1, rfl, h⟩ := h
  obtain ⟨L, d, a, rfl, rfl, R, tk, k⟩ := h
  obtain ⟨da, hA⟩ := R.ad
  obtain ⟨kvs, hd, pr⟩ := R.tab
  refine ⟨_, (qb_one (qs_ret (q_ix (k_ixt (K := K) rfl) (q_dget2 (hu_of hr) (q_fld (K := K) rfl (qv 0) rfl) (qv 1) (q_tup (qac q_int (qac q_int qa_nil))) ⟨rfl, rfl, rfl, rfl⟩) q_int (fun _ _ => rfl)))), ?_⟩
  refine ⟨_, rfl, L.ad, _, _, _, _, rfl, hA, T.l_Addresses, T.a_Addresses_heard, g_Addresses_heard, L.hd, rfl, .inl ⟨kvs, .inl hd⟩, _, rfl, sz, fun p hp => ⟨valV kvs (Sum.inl (a : Int)), DGet.k (k := Sum.inl (a : Int)) (Same.new hp _ _ hd), ?_⟩⟩
  cases e : valV kvs (Sum.inl (a : Int)) with
  | none =>
    have e1 : placeOf d.1.table a = 0 := by
      unfold placeOf
      rw [find_no fun x hx => tf_none pr e x (List.mem_reverse.mpr hx)]
    rw [e1] at k
    exact ⟨p, _, _, _, rfl, rfl, SqT.of upd_same, at_of (j := 0) rfl rfl, k _ (Same.new hp)⟩
  | some v =>
    obtain ⟨x, hx, ex, r, rfl, hr'⟩ := tf_some pr e
    have e1 : placeOf d.1.table a = x.2.1 := by
      unfold placeOf
      rw [find_nd tk.nd (List.mem_reverse.mp hx) ex]
    rw [e1] at k
    exact ⟨r, _, _, _, rfl, rfl, SqT.of (Same.new hp _ _ hr'), at_of (j := 0) rfl rfl, k _ (Same.new hp)⟩
def sp_Addresses_forget_place (K : PySem.W.Frag) (t : Adr) : Sp := sp2 fun x y H Q => ∃ L d, ∃ k : Nat, x = .ref L.ad ∧ y = .int (k : Nat) ∧ Rep t L H d ∧ TabOk d.1 ∧
  ∀ H' q, Rep t { L with hd := q } H' ({ d.1 with table := d.1.table.filter fun x => x.2.1 != k }, d.2) → Kp L H H' → H q = none → Q .non H'
theorem ok_Addresses_forget_place (T : Txt K mg t) : FnOk P w K mg base CX0 1 t.f_Addresses_forget_place t.fd_Addresses_forget_place ["self", "place"] (sp_Addresses_forget_place K t) := by
  refine T.F_Addresses_forget_place.okQ sc_Addresses_forget_place sp2_len (fun cdv A outer s H vs Q E hr h => ?_)
  obtain ⟨x0, x1, rfl, h⟩ := h
  obtain ⟨L, d, k0, rfl, rfl, R, tk, k⟩ := h
  obtain ⟨da, hA⟩ := R.ad
  obtain ⟨kvs, hd, pr⟩ := R.tab
  refine ⟨_, (qb_cons (qs_set (i := 2) sc_Addresses_forget_place.nd rfl (Or.inl rfl) q_dnew) (qb_cons (qs_lock (qs_for PassesOwn.never rfl (qi_items (q_fld (K := K) rfl (qv 0) rfl)) (qg_tup (K := K) rfl rfl (qgs_cons (qg_name (i := 3) sc_Addresses_forget_place.nd rfl (Or.inl rfl)) (qgs_cons (qg_name (i := 4) sc_Addresses_forget_place.nd rfl (Or.inl rfl)) qgs_nil))) (qb_one (qs_if (qt_cmp op_ne (q_ix (k_ixt (K := K) rfl) (qv 4) q_int (fun _ _ => rfl)) (qv 1) (nomark _)) (qb_one (qs_dput (hu_of hr) (qv 2) (qv 3) (qv 4) rfl)) qb_nil)))) (qb_one (qs_fld (K := K) rfl (qv 0) (qv 2) rfl)))), ?_⟩
  intro q hq
  have hqd : L.hd ≠ q := ne_of_none hd hq
  have hqa : L.ad ≠ q := ne_of_none hA hq
  refine ⟨L.hd, _, (upd_ne hqd).trans hd, trivial, fun od => ?_⟩
  have hda : L.ad ≠ L.hd := ne_shp hA hd rfl
  have stay : ∀ b o, H b = some o → b ≠ L.hd → (upd (upd H q (.dK [])) L.hd (.frz od (.dK kvs))) b = some o := fun b o e hb => by
    rw [upd_ne hb, upd_ne (ne_of_none e hq)]; exact e
  have hpl : kvs.length = d.1.table.length := by rw [← paired_len pr, List.length_reverse]
  refine ⟨_, rfl, L.ad, _, _, _, _, rfl, stay _ _ hA hda, T.l_Addresses, T.a_Addresses_heard, g_Addresses_heard, L.hd, od, kvs, rfl, upd_same, for_items (fun i σ H' => (∃ v3 v4, σ = [some (.ref L.ad), some (.int (k0 : Nat)), some (.ref q), v3, v4]) ∧
    (∀ b o, H b = some o → b ≠ L.hd → H' b = some o) ∧ H' L.hd = some (.frz od (.dK kvs)) ∧ ∃ kf, H' q = some (.dK kf) ∧ kf.length ≤ i ∧ Paired (TF H) ((d.1.table.reverse.take i).filter fun x => x.2.1 != k0) kf) ?_ ?_ ?_ ?_⟩
  · exact ⟨⟨_, _, rfl⟩, stay, upd_same, [], by rw [upd_ne hqd.symm]; exact upd_same, Nat.le_refl _, .nil⟩
  · exact fun i σ H' _ ⟨_, _, e, _⟩ => e
  · rintro i ky v σ H' Tt hi ⟨⟨v3, v4, rfl⟩, st, hfr, kf, hkf, hlf, pf⟩ hT
    obtain ⟨x, hx, e1, r, e2, e3⟩ := paired_ix pr hi
    dsimp only at e1 e2
    subst e2 e1
    have hrH : H r = some (.tup [.int (x.2.1 : Nat), .int (x.2.2 : Nat)]) := e3
    have hr1 : H' r = some (.tup [.int (x.2.1 : Nat), .int (x.2.2 : Nat)]) := st _ _ e3 (ne_shp e3 hd rfl)
    have S := Same.new (o := .tup [kV (Sum.inl (x.1 : Int)), .ref r]) hT
    refine ⟨Tt, [kV (Sum.inl (x.1 : Int)), .ref r], rfl, SqT.of upd_same, rfl, _, _, rfl, _, _, rfl, rfl, ?_⟩
    have st2 : ∀ b o, H b = some o → b ≠ L.hd → upd H' Tt (.tup [kV (Sum.inl (x.1 : Int)), .ref r]) b = some o := fun b o e hb => S _ _ (st b o e hb)
    refine ⟨_, rfl, r, _, _, _, rfl, rfl, SqT.of (S _ _ hr1), at_of (j := 0) rfl rfl, _, rfl, rfl, _, rfl, ?_⟩
    have hlt : i < kvs.length := (List.getElem?_eq_some_iff.mp hi).1
    have etk : (d.1.table.reverse.take (i + 1)).filter (fun x => x.2.1 != k0) = if (x.2.1 != k0) = true then (d.1.table.reverse.take i).filter (fun x => x.2.1 != k0) ++ [x] else (d.1.table.reverse.take i).filter (fun x => x.2.1 != k0) := by
      rw [take_snoc hx, List.filter_append, List.filter_cons]
      by_cases h : (x.2.1 != k0) = true
      · rw [if_pos h, if_pos h, List.filter_nil]
      · rw [if_neg h, if_neg h, List.filter_nil, List.append_nil]
    rw [int_bne]
    refine ifB (fun c => ?_) (fun c => ?_)
    · -- the key is new
      have hnk : valV kf (Sum.inl (x.1 : Int)) = none := by
        cases hv : valV kf (Sum.inl (x.1 : Int)) with
        | none => rfl
        | some w' =>
          obtain ⟨y, hy, ey, _⟩ := tf_some pf hv
          have hy1 := (List.mem_filter.mp hy).1
          have nd : (d.1.table.reverse.map (·.1)).Nodup := by
            rw [List.map_reverse]
            exact List.pairwise_reverse.mpr (tk.nd.imp fun h => Ne.symm h)
          obtain ⟨j, hj⟩ := List.getElem?_of_mem hy1
          have hj2 : j < i := by
            have := (List.getElem?_eq_some_iff.mp hj).1
            rw [List.length_take] at this
            omega
          rw [List.getElem?_take_of_lt hj2] at hj
          have q1 : (d.1.table.reverse.map (·.1))[j]? = some x.1 := by rw [List.getElem?_map, hj, ← ey]; rfl
          have q2 : (d.1.table.reverse.map (·.1))[i]? = some x.1 := by rw [List.getElem?_map, hx]; rfl
          have := nd_ix nd q1 q2
          omega
      refine ⟨_, rfl, _, rfl, _, rfl, q, _, rfl, DPut.k (k := Sum.inl (x.1 : Int)) (S _ _ hkf) (Nat.lt_of_le_of_lt hlf (Nat.lt_of_lt_of_le hlt (by rw [hpl]; exact Nat.le_trans tk.most (by decide)))), ?_⟩
      rw [putK_new _ hnk]
      refine ⟨⟨_, _, rfl⟩, fun b o e hb => ?_, ?_, _, upd_same, ?_, ?_⟩
      · rw [upd_ne (ne_of_none e hq)]; exact st2 b o e hb
      · rw [upd_ne hqd]; exact S _ _ hfr
      · rw [List.length_append]; show kf.length + 1 ≤ i + 1; omega
      · rw [etk, if_pos c]
        exact paired_snoc ⟨rfl, r, rfl, hrH⟩ pf
    · refine ⟨⟨_, _, rfl⟩, st2, S _ _ hfr, kf, S _ _ hkf, Nat.le_succ_of_le hlf, ?_⟩
      rw [etk, if_neg (by rw [c]; exact Bool.false_ne_true)]
      exact pf
  · rintro σ H' ⟨⟨v3, v4, rfl⟩, st, hfr, kf, hkf, hlf, pf⟩
    refine ⟨hfr, ?_⟩
    have st2 : ∀ b o, H b = some o → upd H' L.hd (.dK kvs) b = some o := fun b o e => by
      by_cases hb : b = L.hd
      · subst hb; rw [hd] at e; rw [← e]; exact upd_same
      · rw [upd_ne hb]; exact st b o e hb
    refine ⟨_, rfl, _, rfl, L.ad, _, da, _, rfl, st2 _ _ hA, T.l_Addresses, T.a_Addresses_heard, few, ?_⟩
    refine k _ q (R.relay (dx := da) (fun b o e hb => by rw [upd_ne hb]; exact st2 b o e) upd_same ⟨kf, ?_, ?_⟩) (fun b o e m => ?_) hq
    · rw [upd_ne hqa.symm, upd_ne hqd.symm]; exact hkf
    · rw [hpl, List.take_of_length_le (by rw [List.length_reverse]; exact Nat.le_refl _), List.filter_reverse] at pf
      exact paired_imp pf fun _ _ ⟨e1, r, e2, e3⟩ => ⟨e1, r, e2, by rw [upd_ne (ne_shp e3 hA rfl)]; exact st2 _ _ e3⟩
    · rw [upd_ne (fun z => m (.inr (.inl z)))]; exact st2 b o e
end
end Tb
local macro_rules | `(tactic| walk_at "ift") => `(tactic| (dsimp only; rw [if_pos rfl]))
local macro_rules | `(tactic| walk_at "iff") => `(tactic| (dsimp only; rw [if_neg Bool.false_ne_true]))
namespace Tb
open PySem PySem.Spec PyProof.Rows L2
theorem better_eq (b : Ql46.Bridge) (k : Nat) (s : Ql46.Says) : Ql46.better b k s = betterB b.id s.root s.cost s.bridge s.port (b.port k).root (b.port k).cost (b.port k).bridge (b.port k).port := rfl
def heard (k : Nat) (m : List Nat) (d : Ql46.Doing) : Ql46.Doing := match Ql46.read m with
  | .says s => Ql46.hear k s d
  | .changed => Ql46.hearChange k d
  | .none_ => d
theorem read_changed {m : List Nat} (h : m.take 4 = [0, 0, 0, 128]) : Ql46.read m = .changed := by
  unfold Ql46.read
  rw [if_neg (fun z => by rw [h] at z; exact absurd z.1 (by decide)), if_pos h]
theorem read_not {m : List Nat} (h : ¬ m.take 4 = [0, 0, 0, 128]) (h2 : ∀ s, Ql46.read m ≠ .says s) : Ql46.read m = .none_ := by
  cases e : Ql46.read m with
  | says s => exact absurd e (h2 s)
  | changed =>
    unfold Ql46.read at e
    split at e
    · dsimp only at e
      split at e <;> cases e
    · first | cases e | (rw [if_neg h] at e; cases e)
  | none_ => rfl
section
variable {P : Program} {w : World} {K : PySem.W.Frag} {mg : Str → Option Value} {base : Heap} {t : Adr}
def sp_take_message (K : PySem.W.Frag) (t : Adr) : Sp := sp3 fun x y z H Q => ∃ L d i a c m, x = .ref L.b ∧ y = .ref a ∧ z = .ref c ∧ L.ps[i]? = some a ∧ Rep t L H d ∧ H c = some (.lst (bts m)) ∧ m.length ≤ 10000 ∧ Good d.1 ∧ (d.1.port (i + 1)).state ≠ 0 ∧ d.2.length < 70000 ∧ ∀ H', Rp t L H H' (heard (i + 1) m d) → Q .non H'
theorem ok_take_message (T : Txt K mg t) : FnOk P w K mg base CX0 11 t.f_take_message t.fd_take_message ["bridge", "port", "body"] (sp_take_message K t) := by
  refine T.F_take_message.okQ sc_take_message sp3_len (fun cdv A outer s H vs Q E hr h => ?_)
  obtain ⟨x0, x1, x2, rfl, h⟩ := h
  obtain ⟨L, d, i, a, c, m, rfl, rfl, rfl, hi, R, hc, hm, g, hn, hz, k⟩ := h
  unfold heard at k
  refine ⟨_, (qb_cons (qs_if (qt_val (q_call (ok_is_changed (K := K) T) (hr.mono (by decide)) rfl T.m_is_changed T.F_is_changed.kp T.b_is_changed .nil pass0 (qac (qv 2) qa_nil))) (qb_cons (qs_expr (q_call (ok_take_changed (K := K) T) (hr.mono (by decide)) rfl T.m_take_changed T.F_take_changed.kp T.b_take_changed .nil pass0 (qac (qv 0) (qac (qv 1) qa_nil)))) (qb_one qs_retN)) qb_nil) (qb_cons (qs_set (i := 3) sc_take_message.nd rfl (Or.inl rfl) (q_call (ok_read_said (K := K) T) (hr.mono (by decide)) rfl T.m_read_said T.F_read_said.kp T.b_read_said .nil pass0 (qac (qv 2) qa_nil))) (qb_cons (qs_if (qt_cmp op_isN (qv 3) q_non (nomark _)) (qb_one qs_retN) qb_nil) (qb_one (qs_if (qt_val (q_call (ok_is_better (K := K) T) (hr.mono (by decide)) rfl T.m_is_better T.F_is_better.kp T.b_is_better .nil pass0 (qac (q_fld (K := K) rfl (qv 3) rfl) (qac (q_fld (K := K) rfl (qv 1) rfl) (qac (q_fld (K := K) rfl (qv 0) rfl) qa_nil))))) (qb_one (qs_expr (q_call (ok_take_better (K := K) T) (hr.mono (by decide)) rfl T.m_take_better T.F_take_better.kp T.b_take_better .nil pass0 (qac (qv 0) (qac (qv 1) (qac (qv 3) qa_nil)))))) (qb_one (qs_if (qt_val (q_meth (qv 0) T.l_Bridge T.M_Bridge_is_led (ok_Bridge_is_led (K := K) T) (hr.mono (by decide)) T.b_Bridge_is_led .nil pass0 (qac (qv 1) qa_nil))) (qb_one (qs_expr (q_meth (qv 0) T.l_Bridge T.M_Bridge_tell (ok_Bridge_tell (K := K) T) (hr.mono (by decide)) T.b_Bridge_tell .nil pass0 (qac (qv 1) qa_nil)))) qb_nil))))))), ?_⟩
  refine ⟨_, rfl, _, rfl, c, m, rfl, SqL.of hc, fun H1 S1 => ⟨_, rfl, ?_⟩⟩
  have R1 := R.rp.same S1
  refine ifD (fun c1 => ?_) (fun c1 => ?_)
  · rw [read_changed c1] at k
    exact ⟨_, rfl, _, rfl, _, _, rfl, L, d, i, a, rfl, rfl, hi, R1.rep, g, hn, by omega, fun H2 R2 => k _ (R1.trans R2)⟩
  refine ⟨_, rfl, _, rfl, c, m, rfl, SqL.of (S1 _ _ hc), hm, fun s es H2 p lr tr S2 hs => ?_, fun hns H2 S2 => ?_⟩
  · rw [es] at k
    dsimp only at k
    rw [hear_eq (i + 1) s d hn] at k
    have R2 := R1.same S2
    have hs' := hs
    obtain ⟨⟨ds, hp⟩, hl, ht⟩ := hs'
    obtain ⟨dp, lp, wc, hq⟩ := R2.rep.po i a hi
    obtain ⟨dx, tr', hb⟩ := R2.rep.br
    refine ⟨_, rfl, rfl, _, rfl, ?_⟩
    refine ifD (fun z => nomatch z) (fun _ => ?_)
    refine ⟨_, rfl, p, _, _, _, _, rfl, hp, T.l_Said, T.a_Said_leader, g_Said_leader, _, rfl, a, _, _, _, _, rfl, hq.at_, T.l_Port, T.a_Port_leader, g_Port_leader, _, rfl, L.b, _, _, _, _, rfl, hb.at_, T.l_Bridge, T.a_Bridge_own_id, g_Bridge_own_id,
      _, _, _, rfl, lr, lp, d.1.id, s.root, s.cost, s.bridge, s.port, _, _, _, _, rfl, rfl, rfl, hl, hq.lead, _, rfl, ?_⟩
    rw [← better_eq]
    refine ifB (fun c2 => ?_) (fun c2 => ?_)
    · rw [if_pos c2] at k
      exact ⟨_, rfl, _, rfl, _, rfl, _, _, _, rfl, L, d, i, a, p, s, lr, tr, rfl, rfl, rfl, hi, R2.rep, hs, g, hn, by omega, fun H3 R3 => k _ (R2.trans R3)⟩
    · rw [if_neg (by rw [c2]; exact Bool.false_ne_true)] at k
      refine ⟨_, rfl, L.b, _, _, rfl, hb.at_, x_Bridge_is_led, _, rfl, _, _, rfl, L, d, i, a, rfl, rfl, hi, R2.rep, _, rfl, ?_⟩
      refine ifB (fun c3 => ?_) (fun c3 => ?_)
      · rw [if_pos c3] at k
        exact ⟨_, rfl, L.b, _, _, rfl, hb.at_, x_Bridge_tell, _, rfl, _, _, rfl, L, d, i, a, rfl, rfl, hi, R2.rep, g.root, by omega, fun H3 R3 => k _ (R2.trans R3)⟩
      · rw [if_neg (by rw [c3]; exact Bool.false_ne_true)] at k
        exact k _ R2
  · rw [read_not c1 hns] at k
    refine ⟨_, rfl, rfl, _, rfl, ?_⟩
    refine ifD (fun _ => ?_) (fun z => absurd rfl z)
    exact k _ (R1.same S2)
def passTurn (src place : Nat) (f : List Nat) (k : Nat) (d : Ql46.Doing) : Ql46.Doing :=
  if (d.1.port k).state = 4 ∧ k ≠ src ∧ (place = 0 ∨ place = k) then (d.1, d.2 ++ [(k, f)]) else d
theorem ok_passTurn (src place : Nat) (f : List Nat) (k : Nat) (d : Ql46.Doing) : Ok 1 d (passTurn src place f k d) := by
  unfold passTurn
  split
  · exact ⟨fun g => g, rfl, by rw [List.length_append]; exact Nat.le_refl _, rfl⟩
  · exact (Ok.refl d).mono (by decide)
theorem pass_flood (src : Nat) (f : List Nat) (b : Ql46.Bridge) (s : Ql46.Sent) : ∀ n, itr (passTurn src 0 f) n (b, s) = (b, s ++ ((((List.range n).map fun i => i + 1).filter fun j => j != src && (b.port j).state == 4).map fun j => (j, f)))
  | 0 => by show (b, s) = (b, s ++ []); rw [List.append_nil]
  | n + 1 => by
    show passTurn src 0 f (n + 1) (itr (passTurn src 0 f) n (b, s)) = _
    rw [pass_flood src f b s n, List.range_succ, List.map_append, List.filter_append, List.map_append, ← List.append_assoc]
    unfold passTurn
    dsimp only
    by_cases h1 : (b.port (n + 1)).state = 4
    · by_cases h2 : n + 1 = src
      · rw [if_neg (fun z => z.2.1 h2)]
        have : ((n + 1 != src) && (b.port (n + 1)).state == 4) = false := by rw [h2]; simp
        simp [this]
      · rw [if_pos ⟨h1, h2, .inl rfl⟩]
        have : ((n + 1 != src) && (b.port (n + 1)).state == 4) = true := by rw [h1]; simpa using h2
        simp [this]
    · rw [if_neg (fun z => h1 z.1)]
      have : ((n + 1 != src) && (b.port (n + 1)).state == 4) = false := by rw [beq_eq_false_iff_ne.mpr h1, Bool.and_false]
      simp [this]
theorem pass_one (src p : Nat) (f : List Nat) (b : Ql46.Bridge) (s : Ql46.Sent) (hp : 1 ≤ p) : ∀ n, itr (passTurn src p f) n (b, s) = if p ≤ n ∧ p ≠ src ∧ (b.port p).state = 4 then (b, s ++ [(p, f)]) else (b, s)
  | 0 => by rw [if_neg (fun z => by omega)]; rfl
  | n + 1 => by
    show passTurn src p f (n + 1) (itr (passTurn src p f) n (b, s)) = _
    rw [pass_one src p f b s hp n]
    by_cases h : p = n + 1
    · rw [if_neg (fun z => by omega)]
      unfold passTurn
      dsimp only
      subst h
      by_cases h1 : (b.port (n + 1)).state = 4 ∧ n + 1 ≠ src
      · rw [if_pos ⟨h1.1, h1.2, .inr rfl⟩, if_pos ⟨Nat.le_refl _, h1.2, h1.1⟩]
      · rw [if_neg (fun z => h1 ⟨z.1, z.2.1⟩), if_neg (fun z => h1 ⟨z.2.2, z.2.1⟩)]
    · have e : ∀ d : Ql46.Doing, passTurn src p f (n + 1) d = d := fun d => by
        unfold passTurn
        rw [if_neg (fun z => by rcases z.2.2 with z | z <;> omega)]
      rw [e]
      by_cases h1 : p ≤ n
      · have : (p ≤ n ∧ p ≠ src ∧ (b.port p).state = 4) = (p ≤ n + 1 ∧ p ≠ src ∧ (b.port p).state = 4) := by
          rw [eq_true h1, eq_true (show p ≤ n + 1 by omega)]
        simp only [this]
      · rw [if_neg (fun z => h1 z.1), if_neg (fun z => by omega)]
theorem set_snoc {α : Type} (y : α) : ∀ (pre : List α) (v : α), (pre ++ [v]).set pre.length y = pre ++ [y]
  | [], _ => rfl
  | a :: r, v => congrArg (List.cons a) (set_snoc y r v)
theorem r_portsN {L : Lay} {H : Hp} {d : Ql46.Doing} {D : Ends} {tb : TS} {v0 : Option V} {c : Nat} (pre : List (Option V)) (T : Txt K mg t) (f : Nat → Ql46.Doing → Ql46.Doing) (hf : ∀ k d, Good d.1 → Ok c d (f k d)) (R : Rep t L H d) (g : Good d.1) (hz : d.2.length + 16 * c < 100000) (h0 : (pre ++ [v0])[0]? = some (some (.ref L.b)))
    (turn : ∀ (i : Nat) (a : Addr) (H1 : Hp) (d1 : Ql46.Doing) (E : Ends), L.ps[i]? = some a → Rp t L H H1 d1 → Good d1.1 → d1.1 = (itr f i d).1 → d1.2.length < 100000 → d1.2.length ≤ d.2.length + 16 * c → (∀ H2, Rp t L H1 H2 (f (i + 1) d1) → E.nx (pre ++ [some (.ref a)]) H2) → tb E (pre ++ [some (.ref a)]) H1)
    (hd : ∀ v H', Rp t L H H' (itr f d.1.ports.length d) → D.nx (pre ++ [v]) H') :
    tFor (iList K (tFld K (tVar 0) "ports")) (gName pre.length) tb D (pre ++ [v0]) H := by
  obtain ⟨dx, tr, hb⟩ := R.br
  refine ⟨_, h0, L.b, _, _, _, _, rfl, hb.at_, T.l_Bridge, T.a_Bridge_ports, g_Bridge_ports, L.pl, rfl, ⟨_, SqL.of R.pl⟩, for_list (K := K) (a := L.pl) (xs := L.ps.map V.ref) (fun i σ H' => ∃ v, σ = pre ++ [v] ∧ Rp t L H H' (itr f i d)) ⟨_, rfl, R.rp⟩ (fun i σ H' _ ⟨_, _, q⟩ => SqL.of q.rep.pl) ?_ ?_⟩
  · rintro i y σ H' hi ⟨v, rfl, R1⟩
    rw [List.getElem?_map] at hi
    cases e : L.ps[i]? with
    | none => rw [e] at hi; cases hi
    | some a =>
      rw [e] at hi
      cases hi
      have hok := Ok.itrG hf i d g
      have hlt : i < 16 := Nat.lt_of_lt_of_le (R.ilt e) g.few
      show tb _ ((pre ++ [v]).set pre.length (some (.ref a))) H'
      rw [set_snoc]
      refine turn i a H' _ _ e R1 (hok.good g) rfl (by
        have h1 := hok.few
        have h2 : i * c ≤ 16 * c := Nat.mul_le_mul_right c (Nat.le_of_lt hlt)
        omega) ?_ fun H2 R2 => ⟨_, rfl, R1.trans R2⟩
      have h1 := hok.few
      have h2 : i * c ≤ 16 * c := Nat.mul_le_mul_right c (Nat.le_of_lt hlt)
      omega
  · rintro σ H' ⟨v, rfl, R1⟩
    rw [List.length_map, R.len] at R1
    exact hd v H' R1
theorem in_zero (p q : Nat) : inV (.int (p : Int)) [.int 0, .int (q : Int)] = decide (p = 0 ∨ p = q) := by
  unfold inV
  show (eqV (.int 0) (.int (p : Int)) || (eqV (.int (q : Int)) (.int (p : Int)) || false)) = _
  have e : ∀ i j : Int, eqV (.int i) (.int j) = decide (i = j) := fun i j => by first | rfl | (unfold eqV; simp)
  rw [e, e, Bool.or_false]
  by_cases h1 : p = 0
  · subst h1; simp
  · by_cases h2 : p = q
    · subst h2; simp
    · have : ¬ (0 : Int) = (p : Int) := by omega
      have h3 : ¬ (q : Int) = (p : Int) := by omega
      simp [h1, h2, this, h3]
def sp_pass_on (K : PySem.W.Frag) (t : Adr) : Sp := sp4 fun x y z u H Q => ∃ L d i a f fr, ∃ to : Nat, x = .ref L.b ∧ y = .ref a ∧ z = .int (to : Nat) ∧ u = .ref f ∧ L.ps[i]? = some a ∧ Rep t L H d ∧ H f = some (.lst (bts fr)) ∧ f ≠ L.sl ∧ TabOk d.1 ∧ Good d.1 ∧ d.2.length < 90000 ∧
  ∀ H', Rp t L H H' (itr (passTurn (i + 1) (placeOf d.1.table to) fr) d.1.ports.length d) → Q .non H'
theorem ok_pass_on (T : Txt K mg t) : FnOk P w K mg base CX0 2 t.f_pass_on t.fd_pass_on ["bridge", "source", "target", "frame"] (sp_pass_on K t) := by
  refine T.F_pass_on.okQ sc_pass_on sp4_len (fun cdv A outer s H vs Q E hr h => ?_)
  obtain ⟨x0, x1, x2, x3, rfl, h⟩ := h
  obtain ⟨L, d, i, a, f, fr, to, rfl, rfl, rfl, rfl, hi, R, hf, hn, tk, g, hz, k⟩ := h
  obtain ⟨dx, tr, hb⟩ := R.br
  obtain ⟨da, hA⟩ := R.ad
  refine ⟨_, (qb_cons (qs_set (i := 4) sc_pass_on.nd rfl (Or.inl rfl) (q_meth (q_fld (K := K) rfl (qv 0) rfl) T.l_Addresses T.M_Addresses_place_of (ok_Addresses_place_of (K := K) T) (hr.mono (by decide)) T.b_Addresses_place_of .nil pass0 (qac (qv 2) qa_nil))) (qb_one (qs_for PassesOwn.never rfl (qi_list (K := K) rfl (q_fld (K := K) rfl (qv 0) rfl)) (qg_name (i := 5) sc_pass_on.nd rfl (Or.inl rfl)) (qb_one (qs_if (QW.pt (qw_and (qt_cmp op_eq (q_fld (K := K) rfl (qv 5) rfl) (q_gi rfl T.c_FORWARDING) (nomark _)) (qw_and (qt_cmp op_ne (q_fld (K := K) rfl (qv 5) rfl) (q_fld (K := K) rfl (qv 1) rfl) (nomark _)) (qw_and1 (qt_cmp (k_in (K := K) rfl) (qv 4) (q_tup (qac q_int (qac (q_fld (K := K) rfl (qv 5) rfl) qa_nil))) (by with_unfolding_all rfl)))))) (qb_one (qs_expr (q_meth (qv 0) T.l_Bridge T.M_Bridge_send (ok_Bridge_send (K := K) T) (hr.mono (by decide)) T.b_Bridge_send .nil pass0 (qac (q_fld (K := K) rfl (qv 5) rfl) (qac (qv 3) qa_nil))))) qb_nil))))), ?_⟩
  refine ⟨_, rfl, L.b, _, _, _, _, rfl, hb.at_, T.l_Bridge, T.a_Bridge_addresses, g_Bridge_addresses, L.ad, _, _, rfl, hA, x_Addresses_place_of, _, rfl, _, _, rfl, L, d, to, rfl, rfl, R, tk, fun H1 S1 => ?_⟩
  have R1 := R.rp.same S1
  refine r_portsN [some (.ref L.b), some (.ref a), some (.int (to : Nat)), some (.ref f), some (.int (placeOf d.1.table to : Nat))] T (passTurn (i + 1) (placeOf d.1.table to) fr) (fun k d _ => ok_passTurn _ _ _ k d) R1.rep g (by omega) rfl (fun j c H2 d2 E hj R2 g2 e2 hz2 _ kE => ?_) fun v H' R' => k _ (R1.trans R')
  obtain ⟨dp, lp, wc, hp⟩ := R2.rep.po j c hj
  obtain ⟨ds, ls, ws, hs⟩ := R2.rep.po i a hi
  obtain ⟨dx2, tr2, hb2⟩ := R2.rep.br
  unfold passTurn at kE
  refine ⟨_, rfl, c, _, _, _, _, rfl, hp.at_, T.l_Port, T.a_Port_state, g_Port_state, rfl, _, rfl, ?_⟩
  rw [show (V.int 4) = V.int ((4 : Nat) : Int) from rfl, int_beq]
  refine ifB (fun c1 => ?_) (fun c1 => ?_)
  · refine ⟨_, rfl, c, _, _, _, _, rfl, hp.at_, T.l_Port, T.a_Port_place, g_Port_place, _, rfl, a, _, _, _, _, rfl, hs.at_, T.l_Port, T.a_Port_place, g_Port_place, rfl, _, rfl, ?_⟩
    rw [int_bne]
    refine ifB (fun c2 => ?_) (fun c2 => ?_)
    · refine ⟨_, rfl, _, rfl, c, _, _, _, _, rfl, hp.at_, T.l_Port, T.a_Port_place, g_Port_place, sz, fun q hq => ⟨q, _, rfl, .inr (SqT.of upd_same), rfl, rfl, _, rfl, ?_⟩⟩
      show if (inV (.int (placeOf d.1.table to : Nat)) [.int 0, .int ((j + 1 : Nat) : Int)]) = true then _ else _
      rw [in_zero]
      have S3 := Same.new (o := .tup [.int 0, .int ((j + 1 : Nat) : Int)]) hq
      have R3 := R2.same S3
      have hf2 : H2 f = some (.lst (bts fr)) := R2.kp _ _ (S1 _ _ hf) (R1.rep.notMu (S1 _ _ hf) ⟨rfl, rfl, rfl, rfl⟩ hn)
      refine ifD (fun c3 => ?_) (fun c3 => ?_)
      · rw [if_pos ⟨eq_of_beq c1, bne_iff_ne.mp c2, c3⟩] at kE
        refine ⟨_, rfl, L.b, _, _, rfl, S3 _ _ hb2.at_, x_Bridge_send, _, rfl, c, _, _, _, _, rfl, S3 _ _ hp.at_, T.l_Port, T.a_Port_place, g_Port_place, _, rfl, _, _, _, rfl, L, d2, f, fr, j + 1, rfl, rfl, rfl, R3.rep, S3 _ _ hf2, hn, hz2, fun H4 R4 => kE _ ((R2.rep.rp.same S3).trans R4)⟩
      · rw [if_neg (fun z => c3 z.2.2)] at kE
        exact kE _ (R2.rep.rp.same S3)
    · walk_at "iff"
      rw [if_neg (fun z => by rw [bne_iff_ne.mpr z.2.1] at c2; cases c2)] at kE
      exact kE _ R2.rep.rp
  · walk_at "iff"
    rw [if_neg (fun z => by rw [z.1, beq_self_eq_true] at c1; cases c1)] at kE
    exact kE _ R2.rep.rp
end
end Tb
local macro_rules | `(tactic| walk_at "ift") => `(tactic| (dsimp only; rw [if_pos rfl]))
local macro_rules | `(tactic| walk_at "iff") => `(tactic| (dsimp only; rw [if_neg Bool.false_ne_true]))
namespace Tb
open PySem PySem.Spec PyProof.Rows L2
theorem tabok_learn {b : Ql46.Bridge} (h : TabOk b) {k : Nat} (hk : 1 ≤ k) (a : Nat) : TabOk (Ql46.learn b k a) := by
  rw [learn_eq]
  split
  · exact h
  · rename_i hg
    have sub : ∀ x ∈ (heardTab b.table a k).take 1024, x = (a, k, 0) ∨ x ∈ b.table := fun x hx => by
      rcases List.mem_cons.mp (List.mem_of_mem_take hx) with e | e
      · exact .inl e
      · exact .inr (List.mem_filter.mp e).1
    refine ⟨?_, ?_, fun x hx => ?_, fun x hx => ?_⟩
    · show (((heardTab b.table a k).take 1024).map (·.1)).Nodup
      rw [List.map_take]
      refine List.Sublist.nodup (List.take_sublist _ _) ?_
      unfold heardTab
      rw [List.map_cons, List.nodup_cons]
      refine ⟨fun m => ?_, (List.Sublist.map _ List.filter_sublist).nodup h.nd⟩
      obtain ⟨x, hx, e⟩ := List.mem_map.mp m
      have := (List.mem_filter.mp hx).2
      rw [e] at this
      simp at this
    · show ((heardTab b.table a k).take 1024).length ≤ 1024
      rw [List.length_take]; exact Nat.min_le_left _ _
    · rcases sub x hx with e | e
      · rw [e]; exact hk
      · exact h.pos x e
    · rcases sub x hx with e | e
      · rw [e]; exact hg
      · exact h.grp x e
theorem learn_keeps (b : Ql46.Bridge) (k a : Nat) : (Ql46.learn b k a).id = b.id ∧ (Ql46.learn b k a).root = b.root ∧ (Ql46.learn b k a).rootPort = b.rootPort ∧ (Ql46.learn b k a).ports = b.ports := by
  rw [learn_eq]
  split <;> exact ⟨rfl, rfl, rfl, rfl⟩
def passS (k to : Nat) (f : List Nat) (d : Ql46.Doing) : Ql46.Doing := match (if to / 2 ^ 40 % 2 = 1 then none else d.1.table.find? fun x => x.1 == to) with
  | some x => if x.2.1 = k ∨ (d.1.port x.2.1).state ≠ 4 then d else (d.1, d.2 ++ [(x.2.1, f)])
  | none => (d.1, d.2 ++ ((d.1.all.filter fun j => j != k && (d.1.port j).state == 4).map fun j => (j, f)))
theorem pass_spec {d : Ql46.Doing} (h : TabOk d.1) (k to : Nat) (f : List Nat) : itr (passTurn k (placeOf d.1.table to) f) d.1.ports.length d = passS k to f d := by
  obtain ⟨b, s⟩ := d
  unfold passS
  dsimp only at h ⊢
  cases e : b.table.find? fun x => x.1 == to with
  | none =>
    have e0 : placeOf b.table to = 0 := by unfold placeOf; rw [e]
    rw [e0, pass_flood]
    have e2 : (if to / 2 ^ 40 % 2 = 1 then none else (none : Option (Nat × Nat × Nat))) = none := by split <;> rfl
    rw [e2]
    rfl
  | some x =>
    have e0 : placeOf b.table to = x.2.1 := by unfold placeOf; rw [e]
    have hm := List.mem_of_find?_eq_some e
    have ht : x.1 = to := by have := List.find?_some e; exact eq_of_beq this
    have hg := h.grp x hm
    rw [ht] at hg
    rw [e0, pass_one k x.2.1 f b s (h.pos x hm), if_neg hg]
    dsimp only
    by_cases h1 : x.2.1 = k ∨ (b.port x.2.1).state ≠ 4
    · rw [if_pos h1, if_neg]
      rintro ⟨_, q1, q2⟩
      rcases h1 with h1 | h1
      · exact q1 h1
      · exact h1 q2
    · rw [if_neg h1, if_pos]
      have hs : (b.port x.2.1).state = 4 := by
        by_cases q : (b.port x.2.1).state = 4
        · exact q
        · exact absurd (.inr q) h1
      refine ⟨?_, fun z => h1 (.inl z), hs⟩
      by_cases q : x.2.1 ≤ b.ports.length
      · exact q
      · exfalso
        have hp := h.pos x hm
        have : b.port x.2.1 = Ql46.off := by
          unfold Ql46.Bridge.port
          rw [List.getD_eq_getElem?_getD, List.getElem?_eq_none (by omega)]
          rfl
        rw [this] at hs
        cases hs
def otherS (k : Nat) (f : List Nat) (d : Ql46.Doing) : Ql46.Doing :=
  let e : Ql46.Doing := if 3 ≤ (d.1.port k).state then (Ql46.learn d.1 k (Ql46.field f 6 6), d.2) else d
  if (d.1.port k).state ≠ 4 ∨ (Ql46.GROUP < Ql46.field f 0 6 ∧ Ql46.field f 0 6 < Ql46.GROUP + 16) then e else passS k (Ql46.field f 0 6) f e
section
variable {P : Program} {w : World} {K : PySem.W.Frag} {mg : Str → Option Value} {base : Heap} {t : Adr}
def sp_take_other (K : PySem.W.Frag) (t : Adr) : Sp := sp3 fun x y z H Q => ∃ L d i a f fr, x = .ref L.b ∧ y = .ref a ∧ z = .ref f ∧ L.ps[i]? = some a ∧ Rep t L H d ∧ H f = some (.lst (bts fr)) ∧ f ≠ L.sl ∧ TabOk d.1 ∧ Good d.1 ∧ d.2.length < 80000 ∧ ∀ H', Rp t L H H' (otherS (i + 1) fr d) → Q .non H'
theorem ok_take_other (T : Txt K mg t) : FnOk P w K mg base CX0 3 t.f_take_other t.fd_take_other ["bridge", "port", "frame"] (sp_take_other K t) := by
  refine T.F_take_other.okQ sc_take_other sp3_len (fun cdv A outer s H vs Q E hr h => ?_)
  obtain ⟨x0, x1, x2, rfl, h⟩ := h
  obtain ⟨L, d, i, a, f, fr, rfl, rfl, rfl, hi, R, hf, hn, tk, g, hz, k⟩ := h
  obtain ⟨dx, tr, hb⟩ := R.br
  obtain ⟨da, hA⟩ := R.ad
  obtain ⟨dp, lp, wc, hp⟩ := R.po i a hi
  have g4 := g.st (i + 1)
  refine ⟨_, (qb_cons (qs_if (QW.pt (qw_or (qt_cmp op_eq (q_fld (K := K) rfl (qv 1) rfl) (q_gi rfl T.c_LEARNING) (nomark _)) (qw_or1 (qt_cmp op_eq (q_fld (K := K) rfl (qv 1) rfl) (q_gi rfl T.c_FORWARDING) (nomark _))))) (qb_one (qs_expr (q_meth (q_fld (K := K) rfl (qv 0) rfl) T.l_Addresses T.M_Addresses_hear (ok_Addresses_hear (K := K) T) (hr.mono (by decide)) T.b_Addresses_hear .nil pass0 (qac (q_call (ok_row_number (K := K) T) (hr.mono (by decide)) rfl T.m_row_number T.F_row_number.kp T.b_row_number .nil pass0 (qac (q_slice (k_sl (K := K) rfl) (qv 2) (qo_some q_int) (qo_some q_int)) qa_nil)) (qac (q_fld (K := K) rfl (qv 1) rfl) qa_nil))))) qb_nil) (qb_cons (qs_set (i := 3) sc_take_other.nd rfl (Or.inl rfl) (q_call (ok_row_number (K := K) T) (hr.mono (by decide)) rfl T.m_row_number T.F_row_number.kp T.b_row_number .nil pass0 (qac (q_slice (k_sl (K := K) rfl) (qv 2) (qo_some q_int) (qo_some q_int)) qa_nil))) (qb_cons (qs_set (i := 4) sc_take_other.nd rfl (Or.inl rfl) (q_chain op_le op_le (q_gi rfl T.c_FIRST_KEPT_ADDRESS) (qv 3) (q_gi rfl T.c_LAST_KEPT_ADDRESS))) (qb_one (qs_if (QW.pt (qw_and (qt_cmp op_eq (q_fld (K := K) rfl (qv 1) rfl) (q_gi rfl T.c_FORWARDING) (nomark _)) (qw_and1 (qt_not (qt_val (qv 4)))))) (qb_one (qs_expr (q_call (ok_pass_on (K := K) T) (hr.mono (by decide)) rfl T.m_pass_on T.F_pass_on.kp T.b_pass_on .nil pass0 (qac (qv 0) (qac (qv 1) (qac (qv 3) (qac (qv 2) qa_nil))))))) qb_nil))))), ?_⟩
  have rest : ∀ (H1 : Hp) (d1 : Ql46.Doing), Rp t L H H1 d1 → TabOk d1.1 → Good d1.1 → d1.2 = d.2 → d1.1.port (i + 1) = d.1.port (i + 1) → (if 3 ≤ (d.1.port (i + 1)).state then (Ql46.learn d.1 (i + 1) (Ql46.field fr 6 6), d.2) else d) = d1 →
      tSeq (tAsg (tCall (sp_row_number K t) [] E0 (tCons (tSl (rSlL K) (tVar 2) (tPart (tC (.int 0))) (tPart (tC (.int 6)))) tNil)) (gName 3))
        (tSeq (tAsg (tChain (rI0 fun i j => V.bl (decide (i ≤ j))) (rI0 fun i j => V.bl (decide (i ≤ j))) (tC (.int 1652522221569)) (tVar 3) (tC (.int 1652522221583))) (gName 4))
          (tIfS (tAnd (tTest (tOp rEq (tFld K (tVar 1) "state") (tC (.int 4)))) (tNot (tB (tVar 4)))) (tDrop (tCall (sp_pass_on K t) [] E0 (tCons (tVar 0) (tCons (tVar 1) (tCons (tVar 3) (tCons (tVar 2) tNil)))))) tNext))
        { nx := fun _ H' => Q .non H', rt := Q } [some (.ref L.b), some (.ref a), some (.ref f), none, none] H1 := fun H1 d1 R1 tk1 g1 e2 ep e1 => by
    have k1 : ∀ H', Rp t L H H' (if (d.1.port (i + 1)).state ≠ 4 ∨ (Ql46.GROUP < Ql46.field fr 0 6 ∧ Ql46.field fr 0 6 < Ql46.GROUP + 16) then d1 else passS (i + 1) (Ql46.field fr 0 6) fr d1) → Q .non H' := by
      unfold otherS at k
      dsimp only at k
      rw [e1] at k
      exact k
    have hf1 : H1 f = some (.lst (bts fr)) := R1.kp _ _ hf (R.notMu hf ⟨rfl, rfl, rfl, rfl⟩ hn)
    refine r_num (s := 2) (i := 0) (n := 6) (j := 6) rfl rfl (SqL.of hf1) fun H2 S2 => ?_
    have R2 := R1.same S2
    obtain ⟨dp2, lp2, wc2, hp2⟩ := R2.rep.po i a hi
    have fin : ∀ kept : Bool, kept = decide (Ql46.GROUP < Ql46.field fr 0 6 ∧ Ql46.field fr 0 6 < Ql46.GROUP + 16) →
        tIfS (tAnd (tTest (tOp rEq (tFld K (tVar 1) "state") (tC (.int 4)))) (tNot (tB (tVar 4)))) (tDrop (tCall (sp_pass_on K t) [] E0 (tCons (tVar 0) (tCons (tVar 1) (tCons (tVar 3) (tCons (tVar 2) tNil)))))) tNext
          { nx := fun _ H' => Q .non H', rt := Q } [some (.ref L.b), some (.ref a), some (.ref f), some (.int (Ql46.field fr 0 6 : Nat)), some (.bl kept)] H2 := fun kept hk => by
      refine ⟨_, rfl, a, _, _, _, _, rfl, hp2.at_, T.l_Port, T.a_Port_state, g_Port_state, rfl, _, rfl, ?_⟩
      rw [show (V.int 4) = V.int ((4 : Nat) : Int) from rfl, int_beq, ep]
      refine ifB (fun c3 => ?_) (fun c3 => ?_)
      · refine ⟨_, rfl, _, rfl, ?_⟩
        cases kept with
        | true =>
          refine ifB (fun z => absurd z (by decide)) (fun _ => ?_)
          rw [if_pos (.inr (of_decide_eq_true hk.symm))] at k1
          exact k1 _ R2
        | false =>
          refine ifB (fun _ => ?_) (fun z => absurd z (by decide))
          have hk' := of_decide_eq_false hk.symm
          rw [if_neg (fun z => by
            rcases z with z | z
            · exact z (eq_of_beq c3)
            · exact hk' z)] at k1
          refine ⟨_, rfl, _, rfl, _, rfl, _, rfl, _, _, _, _, rfl, L, d1, i, a, f, fr, Ql46.field fr 0 6, rfl, rfl, rfl, rfl, hi, R2.rep, S2 _ _ hf1, hn, tk1, g1, by rw [e2]; omega, fun H3 R3 => k1 _ ?_⟩
          rw [pass_spec tk1] at R3
          exact R2.trans R3
      · walk_at "iff"
        rw [if_pos (.inl fun z => by rw [z] at c3; cases c3)] at k1
        exact k1 _ R2
    refine ⟨_, rfl, _, _, rfl, rfl, _, rfl, ?_⟩
    have eG : Ql46.GROUP = 1652522221568 := rfl
    refine ifD (fun c2 => ?_) (fun c2 => ?_)
    · refine ⟨_, _, rfl, rfl, fin _ (decide_eq_decide.mpr ?_)⟩
      rw [eG]
      omega
    · refine fin false (decide_eq_false ?_).symm
      rw [eG]
      omega
  have learnt : 3 ≤ (d.1.port (i + 1)).state → ∀ D : Ends, (∀ H1, Rp t L H H1 (Ql46.learn d.1 (i + 1) (Ql46.field fr 6 6), d.2) → D.nx [some (.ref L.b), some (.ref a), some (.ref f), none, none] H1) →
      tDrop (tMeth t.C_Addresses "hear" (sp_Addresses_hear K t) [] E0 (tFld K (tVar 0) "addresses") (tCons (tCall (sp_row_number K t) [] E0 (tCons (tSl (rSlL K) (tVar 2) (tPart (tC (.int 6))) (tPart (tC (.int 12)))) tNil)) (tCons (tFld K (tVar 1) "place") tNil)))
        D [some (.ref L.b), some (.ref a), some (.ref f), none, none] H := fun h3 D kD => by
    refine ⟨_, rfl, L.b, _, _, _, _, rfl, hb.at_, T.l_Bridge, T.a_Bridge_addresses, g_Bridge_addresses, L.ad, _, _, rfl, hA, x_Addresses_hear, ?_⟩
    refine r_num (s := 2) (i := 6) (n := 6) (j := 12) rfl rfl (SqL.of hf) fun H2 S2 => ?_
    exact ⟨_, rfl, a, _, _, _, _, rfl, S2 _ _ hp.at_, T.l_Port, T.a_Port_place, g_Port_place, _, _, _, rfl, L, d, Ql46.field fr 6 6, i + 1, rfl, rfl, rfl, R.same S2, tk, fun H3 R3 => kD _ ((R.rp.same S2).trans R3)⟩
  have lk := learn_keeps d.1 (i + 1) (Ql46.field fr 6 6)
  have gl : Good (Ql46.learn d.1 (i + 1) (Ql46.field fr 6 6)) := g.of lk.1 lk.2.1 lk.2.2.1 lk.2.2.2
  have pl : (Ql46.learn d.1 (i + 1) (Ql46.field fr 6 6)).port (i + 1) = d.1.port (i + 1) := by unfold Ql46.Bridge.port; rw [lk.2.2.2]
  refine ⟨_, rfl, a, _, _, _, _, rfl, hp.at_, T.l_Port, T.a_Port_state, g_Port_state, rfl, _, rfl, ?_⟩
  rw [show (V.int 3) = V.int ((3 : Nat) : Int) from rfl, int_beq]
  refine ifB (fun c1 => ?_) (fun c1 => ?_)
  · walk_at "ift"
    have h3 : 3 ≤ (d.1.port (i + 1)).state := Nat.le_of_eq (eq_of_beq c1).symm
    exact learnt h3 _ fun H1 R1 => rest H1 _ R1 (tabok_learn tk (by omega) _) gl rfl pl (if_pos h3)
  refine ⟨_, rfl, a, _, _, _, _, rfl, hp.at_, T.l_Port, T.a_Port_state, g_Port_state, rfl, _, rfl, ?_⟩
  rw [show (V.int 4) = V.int ((4 : Nat) : Int) from rfl, int_beq]
  refine ifB (fun c2 => ?_) (fun c2 => ?_)
  · have h3 : 3 ≤ (d.1.port (i + 1)).state := by rw [eq_of_beq c2]; decide
    exact learnt h3 _ fun H1 R1 => rest H1 _ R1 (tabok_learn tk (by omega) _) gl rfl pl (if_pos h3)
  · have h3 : ¬ 3 ≤ (d.1.port (i + 1)).state := fun h3 => by
      have h1 : (d.1.port (i + 1)).state ≠ 3 := fun e => by rw [e] at c1; cases c1
      have h2 : (d.1.port (i + 1)).state ≠ 4 := fun e => by rw [e] at c2; cases c2
      generalize (d.1.port (i + 1)).state = s at *
      exact h2 (Nat.le_antisymm g4 (Nat.lt_of_le_of_ne h3 (Ne.symm h1)))
    exact rest H d R.rp tk g rfl rfl (if_neg h3)
end
end Tb
local macro_rules | `(tactic| walk_at "ift") => `(tactic| (dsimp only; rw [if_pos rfl]))
local macro_rules | `(tactic| walk_at "iff") => `(tactic| (dsimp only; rw [if_neg Bool.false_ne_true]))
namespace Tb
open PySem PySem.Spec PyProof.Rows L2
def frameS (k : Nat) (f : List Nat) (d : Ql46.Doing) : Ql46.Doing := if Ql46.field f 0 6 = Ql46.GROUP then heard k (bodyOf f) d else otherS k f d
theorem frame_eq (k : Nat) (f : List Nat) (d : Ql46.Doing) : Ql46.frame k f d = if (d.1.port k).state = 0 ∨ f.length < 14 then d else frameS k f d := by
  unfold Ql46.frame frameS
  dsimp only
  split
  · rfl
  · split
    · unfold heard bodyOf
      split
      · rfl
      · rfl
    · unfold otherS passS Ql46.Doing.on
      dsimp only
      rfl
structure Ext (L L' : Lay) (H H' : Hp) : Prop where
  b : L'.b = L.b
  pl : L'.pl = L.pl
  kp : ∀ a o, H a = some o → ¬ Mu L a → H' a = some o ∧ ¬ Mu L' a
theorem Ext.trans {L L1 L2 : Lay} {H H1 H2 : Hp} (x : Ext L L1 H H1) (y : Ext L1 L2 H1 H2) : Ext L L2 H H2 := ⟨y.b.trans x.b, y.pl.trans x.pl, fun a o e m => let ⟨e1, m1⟩ := x.kp a o e m; y.kp a o e1 m1⟩
theorem Rp.ext {t : Adr} {L : Lay} {H H' : Hp} {d : Ql46.Doing} (R : Rp t L H H' d) : Ext L L H H' := ⟨rfl, rfl, fun a o e m => ⟨R.kp a o e m, m⟩⟩
theorem ext_hd {L : Lay} {H H' : Hp} {q : Addr} (kp : Kp L H H') (hq : H q = none) : Ext L { L with hd := q } H H' := ⟨rfl, rfl, fun a o e m => ⟨kp a o e m, by
  rintro (z | z | z | z | z)
  · exact m (.inl z)
  · exact m (.inr (.inl z))
  · have z : a = q := z
    rw [z, hq] at e; cases e
  · exact m (.inr (.inr (.inr (.inl z))))
  · exact m (.inr (.inr (.inr (.inr z))))⟩⟩
theorem ext_sl {L : Lay} {H H' : Hp} {q : Addr} (kp : Kp L H H') (hq : H q = none) : Ext L { L with sl := q } H H' := ⟨rfl, rfl, fun a o e m => ⟨kp a o e m, by
  rintro (z | z | z | z | z)
  · exact m (.inl z)
  · exact m (.inr (.inl z))
  · exact m (.inr (.inr (.inl z)))
  · have z : a = q := z
    rw [z, hq] at e; cases e
  · exact m (.inr (.inr (.inr (.inr z))))⟩⟩
def sentN (s : Ql46.Sent) : List Nat := s.flatMap fun (x : Nat × List Nat) => x.1 :: x.2.length :: x.2
section
variable {t : Adr} {L : Lay} {H H' : Hp} {d : Ql46.Doing}
theorem Rep.unsent (R : Rep t L H d) {q dx tr : Addr} (hb : BrAt t L H d.1 dx tr) (kp : ∀ a o, H a = some o → H' a = some o) (hq : H' q = some (.lst [])) (hf : H q = none) :
    Rep t { L with sl := q } (upd H' L.b (.ins t.C_Bridge dx (brF { L with sl := q } d.1 tr))) (d.1, []) := by
  have ks : ∀ c o, H c = some o → Nat.beq (shp o) 13 = false → upd H' L.b (.ins t.C_Bridge dx (brF { L with sl := q } d.1 tr)) c = some o := fun c o e hs => by
    rw [upd_ne (ne_shp e hb.at_ hs)]; exact kp _ _ e
  refine ⟨⟨dx, tr, upd_same, let ⟨dd, e⟩ := hb.times; ⟨dd, ks _ _ e rfl⟩⟩, ks _ _ R.pl rfl, R.nd, R.len, fun j c hj => ?_, ?_, ?_, ⟨[], ?_, .nil⟩, ?_⟩
  · obtain ⟨dx', lr', wc', h'⟩ := R.po j c hj
    exact ⟨dx', lr', wc', ks _ _ h'.at_ rfl, let ⟨dd, e⟩ := h'.lead; ⟨dd, ks _ _ e rfl⟩, h'.way⟩
  · obtain ⟨dd, e⟩ := R.ad
    exact ⟨dd, ks _ _ e rfl⟩
  · exact R.tab.keep (fun _ e => ks _ _ e rfl) (fun _ _ e => ks _ _ e rfl)
  · rw [upd_ne (ne_of_none hb.at_ hf).symm]; exact hq
  · exact ne_of_none R.pl hf
end
section
variable {P : Program} {w : World} {K : PySem.W.Frag} {mg : Str → Option Value} {base : Heap} {t : Adr}
def sp_take_frame (K : PySem.W.Frag) (t : Adr) : Sp := sp3 fun x y z H Q => ∃ L d i a f fr, x = .ref L.b ∧ y = .ref a ∧ z = .ref f ∧ L.ps[i]? = some a ∧ Rep t L H d ∧ H f = some (.lst (bts fr)) ∧ f ≠ L.sl ∧ fr.length ≤ 10000 ∧ TabOk d.1 ∧ Good d.1 ∧ (d.1.port (i + 1)).state ≠ 0 ∧ d.2.length < 60000 ∧
  ∀ H', Rp t L H H' (frameS (i + 1) fr d) → Q .non H'
theorem ok_take_frame (T : Txt K mg t) : FnOk P w K mg base CX0 12 t.f_take_frame t.fd_take_frame ["bridge", "port", "frame"] (sp_take_frame K t) := by
  refine T.F_take_frame.okQ sc_take_frame sp3_len (fun cdv A outer s H vs Q E hr h => ?_)
  obtain ⟨x0, x1, x2, rfl, h⟩ := h
  obtain ⟨L, d, i, a, f, fr, rfl, rfl, rfl, hi, R, hf, hn, hl, tk, g, hs, hz, k⟩ := h
  unfold frameS at k
  refine ⟨_, (qb_one (qs_if (qt_cmp op_eq (q_call (ok_row_number (K := K) T) (hr.mono (by decide)) rfl T.m_row_number T.F_row_number.kp T.b_row_number .nil pass0 (qac (q_slice (k_sl (K := K) rfl) (qv 2) (qo_some q_int) (qo_some q_int)) qa_nil)) (q_gi rfl T.c_BRIDGES_ADDRESS) (nomark _)) (qb_one (qs_expr (q_call (ok_take_message (K := K) T) (hr.mono (by decide)) rfl T.m_take_message T.F_take_message.kp T.b_take_message .nil pass0 (qac (qv 0) (qac (qv 1) (qac (q_call (ok_message_body (K := K) T) (hr.mono (by decide)) rfl T.m_message_body T.F_message_body.kp T.b_message_body .nil pass0 (qac (qv 2) qa_nil)) qa_nil)))))) (qb_one (qs_expr (q_call (ok_take_other (K := K) T) (hr.mono (by decide)) rfl T.m_take_other T.F_take_other.kp T.b_take_other .nil pass0 (qac (qv 0) (qac (qv 1) (qac (qv 2) qa_nil)))))))), ?_⟩
  refine r_num (s := 2) (i := 0) (n := 6) (j := 6) rfl rfl (SqL.of hf) fun H1 S1 => ?_
  have R1 := R.rp.same S1
  refine ⟨rfl, _, rfl, ?_⟩
  rw [show (V.int 1652522221568) = V.int ((Ql46.GROUP : Nat) : Int) from rfl, int_beq]
  refine ifB (fun c => ?_) (fun c => ?_)
  · rw [if_pos (eq_of_beq c)] at k
    refine ⟨_, rfl, _, rfl, _, rfl, _, rfl, f, fr, rfl, SqL.of (S1 _ _ hf), hl, fun H2 p S2 f2 e2 => ?_⟩
    have R2 := R1.same S2
    have hbl : (bodyOf fr).length ≤ 10000 := by
      unfold bodyOf
      split
      · exact Nat.zero_le _
      · rw [List.length_take, List.length_drop]; omega
    exact ⟨_, _, _, rfl, L, d, i, a, p, bodyOf fr, rfl, rfl, rfl, hi, R2.rep, e2, hbl, g, hs, by omega, fun H3 R3 => k _ (R2.trans R3)⟩
  · rw [if_neg (fun e => by rw [e] at c; cases c)] at k
    exact ⟨_, rfl, _, rfl, _, rfl, _, _, _, rfl, L, d, i, a, f, fr, rfl, rfl, rfl, hi, R1.rep, S1 _ _ hf, hn, tk, g, by omega, fun H3 R3 => k _ (R1.trans R3)⟩
def sp_take_sent (K : PySem.W.Frag) (t : Adr) : Sp := sp1 fun x H Q => ∃ L d, x = .ref L.b ∧ Rep t L H d ∧ (sentN d.2).length < 1000000 ∧
  ∀ H' p q, Rep t { L with sl := q } H' (d.1, []) → Kp L H H' → H q = none → H p = none → p ≠ q → H' p = some (.lst (bts (d.2.length :: sentN d.2))) → Q (.ref p) H'
theorem ok_take_sent (T : Txt K mg t) : FnOk P w K mg base CX0 1 t.f_take_sent t.fd_take_sent ["bridge"] (sp_take_sent K t) := by
  refine T.F_take_sent.okQ sc_take_sent sp1_len (fun cdv A outer s H vs Q E hr h => ?_)
  obtain ⟨x0, rfl, h⟩ := h
  obtain ⟨L, d, rfl, R, hz, k⟩ := h
  obtain ⟨dx, tr, hb⟩ := R.br
  obtain ⟨as, hs, pr⟩ := R.sent
  refine ⟨_, (qb_cons (qs_set (i := 1) sc_take_sent.nd rfl (Or.inl rfl) (q_lst (qac (q_callB (k_len (K := K) rfl) rfl T.n_len PySem.boot_len (qac (q_fld (K := K) rfl (qv 0) rfl) qa_nil)) qa_nil))) (qb_cons (qs_for PassesOwn.never rfl (qi_list (K := K) rfl (q_fld (K := K) rfl (qv 0) rfl)) (qg_tup (K := K) rfl rfl (qgs_cons (qg_name (i := 2) sc_take_sent.nd rfl (Or.inl rfl)) (qgs_cons (qg_name (i := 3) sc_take_sent.nd rfl (Or.inl rfl)) qgs_nil))) (qb_cons (qs_expr (q_bm (K := K) rfl PySem.F.plainAttrs_list PySem.F.slot_list_append PySem.F.type_list_append mt_append (qv 1) (qac (qv 2) qa_nil))) (qb_cons (qs_expr (q_bm (K := K) rfl PySem.F.plainAttrs_list PySem.F.slot_list_append PySem.F.type_list_append mt_append (qv 1) (qac (q_callB (k_len (K := K) rfl) rfl T.n_len PySem.boot_len (qac (qv 3) qa_nil)) qa_nil))) (qb_one (qs_expr (q_bm (K := K) rfl PySem.F.plainAttrs_list PySem.F.slot_list_extend PySem.F.type_list_extend mt_extend (qv 1) (qac (qv 3) qa_nil))))))) (qb_cons (qs_fld (K := K) rfl (qv 0) (q_lst qa_nil) rfl) (qb_one (qs_ret (qv 1)))))), ?_⟩
  refine ⟨_, rfl, L.b, _, _, _, _, rfl, hb.at_, T.l_Bridge, T.a_Bridge_sent, g_Bridge_sent, L.sl, _, rfl, .inl (SqL.of hs), sz, fun p hp => ?_⟩
  have hlen : (as.map V.ref).length = d.2.length := by rw [List.length_map, ← paired_len pr]
  rw [hlen]
  refine ⟨_, rfl, L.b, _, _, _, _, rfl, Same.new hp _ _ hb.at_, T.l_Bridge, T.a_Bridge_sent, g_Bridge_sent, L.sl, rfl, ⟨_, SqL.of (Same.new hp _ _ hs)⟩, for_list (K := K) (a := L.sl) (xs := as.map V.ref) (fun i σ H' => (∃ v2 v3, σ = [some (.ref L.b), some (.ref p), v2, v3]) ∧ Same H H' ∧ H' p = some (.lst (bts (d.2.length :: sentN (d.2.take i)))))
    ⟨⟨_, _, rfl⟩, Same.new hp, upd_same⟩ (fun i σ H' _ ⟨_, s, _⟩ => SqL.of (s _ _ hs)) ?_ ?_⟩
  · rintro i y σ H' hi ⟨⟨v2, v3, rfl⟩, S, hp'⟩
    rw [List.getElem?_map] at hi
    cases e : as[i]? with
    | none => rw [e] at hi; cases hi
    | some c =>
      rw [e] at hi
      cases hi
      obtain ⟨x, hx, f, h1, h2, h3⟩ := paired_ix pr e
      have e3 : sentN (d.2.take (i + 1)) = sentN (d.2.take i) ++ (x.1 :: x.2.length :: x.2) := by
        unfold sentN
        rw [take_snoc hx, List.flatMap_append]
        simp only [List.flatMap_cons, List.flatMap_nil, List.append_nil]
      have hle : (sentN (d.2.take (i + 1))).length ≤ (sentN d.2).length := by
        have : sentN d.2 = sentN (d.2.take (i + 1)) ++ sentN (d.2.drop (i + 1)) := by
          unfold sentN
          rw [← List.flatMap_append, List.take_append_drop]
        rw [this, List.length_append]; omega
      rw [e3, List.length_append, List.length_cons, List.length_cons] at hle
      have big : 1000001 < sizeLine := by decide
      refine ⟨c, _, rfl, SqT.of (S _ _ h1), rfl, _, _, rfl, _, _, rfl, rfl, ?_⟩
      refine ⟨_, rfl, .inl ⟨rfl, _, SqL.of hp'⟩, _, rfl, p, _, _, rfl, rfl, hp', by rw [bts_len, List.length_cons]; omega, ?_⟩
      have hfp : f ≠ p := fun z => by rw [z, hp] at h2; cases h2
      refine ⟨_, rfl, .inl ⟨rfl, _, SqL.of upd_same⟩, _, rfl, f, _, rfl, .inl (SqL.of ((upd_ne hfp).trans (S _ _ h2))), p, _, _, rfl, rfl, upd_same, by rw [List.length_append, bts_len, List.length_cons]; show _ + 1 < _; omega, ?_⟩
      rw [upd_upd]
      refine ⟨_, rfl, .inl ⟨rfl, _, SqL.of upd_same⟩, _, rfl, p, f, _, _, rfl, rfl, upd_same, (upd_ne hfp).trans (S _ _ h2), ?_, ?_⟩
      · rw [List.length_append, List.length_append, bts_len, bts_len, List.length_cons]
        show _ + 1 + 1 + _ ≤ _
        omega
      · rw [upd_upd]
        refine ⟨⟨_, _, rfl⟩, S.put hp, upd_same.trans ?_⟩
        rw [e3, bts_len]
        simp [bts]
  · rintro σ H' ⟨⟨v2, v3, rfl⟩, S, hp'⟩
    rw [List.length_map, ← paired_len pr, List.take_length] at hp'
    refine ⟨sz, fun q hq => ?_⟩
    have hpq : p ≠ q := ne_of_none hp' hq
    have S2 := Same.new (o := .lst []) hq
    refine ⟨_, rfl, L.b, _, dx, _, rfl, S2 _ _ (S _ _ hb.at_), T.l_Bridge, T.a_Bridge_sent, few, ?_⟩
    have hqH : H q = none := S.free hq
    have R1 := R.unsent (q := q) hb (fun a o e => S2 _ _ (S _ _ e)) upd_same hqH
    refine ⟨_, rfl, k _ p q R1 (fun a o e m => ?_) hqH hp hpq ?_⟩
    · rw [upd_ne (fun z => m (.inl z))]; exact S2 _ _ (S _ _ e)
    · rw [upd_ne (ne_of_none hb.at_ hp).symm]
      exact S2 _ _ hp'
def sp_refusal (K : PySem.W.Frag) (t : Adr) : Sp := sp0 fun H Q => ∀ H' p, Same H H' → H p = none → H' p = some (.lst [.int (-1)]) → Q (.ref p) H'
theorem ok_refusal (T : Txt K mg t) : FnOk P w K mg base CX0 1 t.f_refusal t.fd_refusal [] (sp_refusal K t) := by
  refine T.F_refusal.okQ sc_refusal sp0_len (fun cdv A outer s H vs Q E hr h => ?_)
  obtain ⟨rfl, h⟩ := h
  refine ⟨_, (qb_one (qs_ret (q_lst (qac (q_un un_neg q_int) qa_nil)))), ?_⟩
  exact ⟨_, rfl, sz, fun p hp => h _ p (Same.new hp) hp upd_same⟩
end
end Tb
local macro_rules | `(tactic| walk_at "ift") => `(tactic| (dsimp only; rw [if_pos rfl]))
local macro_rules | `(tactic| walk_at "iff") => `(tactic| (dsimp only; rw [if_neg Bool.false_ne_true]))
namespace Tb
open PySem PySem.Spec PyProof.Rows L2
theorem lead_set {b : Ql46.Bridge} {i : Nat} (h : i < b.ports.length) (q : Ql46.Port) : Ql46.lead (b.set (i + 1) q) (i + 1) = b.set (i + 1) { q with root := b.root, cost := b.cost, bridge := b.id, port := Ql46.portId (i + 1) } := by
  unfold Ql46.lead
  rw [port_set_self h, set_set]
  rfl
def ansI (a : Ql46.Ans) : List Int := a.value :: Ql46Neutral.ints (sentN a.sent ++ a.told)
def PostC (t : Adr) (L : Lay) (H : Hp) (Q : VK) (r : Ql46.Bridge × Ql46.Ans) : Prop :=
  ∀ (H' : Hp) (L' : Lay) (p : Addr), Rep t L' H' (r.1, []) → Ext L L' H H' → (∀ o, H p = some o → Mu L p) → ¬ Mu L' p → H' p = some (.lst ((ansI r.2).map V.int)) → Q (.ref p) H'
section
variable {t : Adr} {L : Lay} {H H' : Hp} {d : Ql46.Doing}
theorem Rep.mu_some (R : Rep t L H d) {a : Addr} (m : Mu L a) : ∃ o, H a = some o := by
  rcases m with z | z | z | z | z
  · obtain ⟨dx, tr, h⟩ := R.br
    exact ⟨_, by rw [z]; exact h.at_⟩
  · obtain ⟨dx, h⟩ := R.ad
    exact ⟨_, by rw [z]; exact h⟩
  · obtain ⟨kvs, h, _⟩ := R.tab
    exact ⟨_, by rw [z]; exact h⟩
  · obtain ⟨as, h, _⟩ := R.sent
    exact ⟨_, by rw [z]; exact h⟩
  · obtain ⟨i, hi⟩ := List.getElem?_of_mem z
    obtain ⟨dx, lr, wc, h⟩ := R.po i a hi
    exact ⟨_, h.at_⟩
theorem Rep.fresh (R : Rep t L H d) {p : Addr} (h : H p = none) : ¬ Mu L p := fun m => by
  obtain ⟨o, e⟩ := R.mu_some m
  rw [h] at e; cases e
theorem Ext.fresh {L' : Lay} (x : Ext L L' H H') {p : Addr} (h : H' p = none) : ∀ o, H p = some o → Mu L p := fun o e => Classical.byContradiction fun m => by
  rw [(x.kp p o e m).1] at h; cases h
theorem bts_ints (l : List Nat) : bts l = (Ql46Neutral.ints l).map V.int := by unfold bts Ql46Neutral.ints; rw [List.map_map]; rfl
theorem ans_done (d : Ql46.Doing) : (ansI (Ql46.done d).2).map V.int = bts (d.2.length :: sentN d.2) := by
  unfold ansI Ql46.done
  rw [bts_ints]
  dsimp only
  rw [List.append_nil]
  rfl
end
section
variable {P : Program} {w : World} {K : PySem.W.Frag} {mg : Str → Option Value} {base : Heap} {t : Adr}
theorem r_refuse {L : Lay} {H H1 : Hp} {Q : VK} {b : Ql46.Bridge} {σ : L2.St} (R : Rp t L H H1 (b, [])) (k : PostC t L H Q (b, Ql46.only (-1))) : tCall (sp_refusal K t) [] E0 tNil σ H1 Q :=
  ⟨rfl, fun H' p s f e => k H' L p (R.same s).rep (R.same s).ext (R.ext.fresh f) (R.rep.fresh f) e⟩
theorem r_done {L L1 : Lay} {H H1 : Hp} {Q : VK} {d : Ql46.Doing} {σ : L2.St} (h0 : σ[0]? = some (some (.ref L1.b))) (R : Rep t L1 H1 d) (x : Ext L L1 H H1) (hz : (sentN d.2).length < 1000000) (k : PostC t L H Q (Ql46.done d)) :
    tCall (sp_take_sent K t) [] E0 (tCons (tVar 0) tNil) σ H1 Q := by
  refine ⟨_, h0, _, rfl, L1, d, rfl, R, hz, fun H' p q R' kp fq fp hpq e => ?_⟩
  refine k H' { L1 with sl := q } p R' (x.trans (ext_sl kp fq)) (x.fresh fp) ?_ (e.trans (by rw [ans_done]))
  rintro (z | z | z | z | z)
  · exact R.fresh fp (.inl z)
  · exact R.fresh fp (.inr (.inl z))
  · exact R.fresh fp (.inr (.inr (.inl z)))
  · exact hpq z
  · exact R.fresh fp (.inr (.inr (.inr (.inr z))))
structure Start (t : Adr) (L : Lay) (H : Hp) (b : Ql46.Bridge) : Prop where
  rep : Rep t L H (b, [])
  good : Good b
  tab : TabOk b
def Fits (s : Ql46.Sent) : Prop := (sentN s).length < 1000000
def sp_br_on (K : PySem.W.Frag) (t : Adr) : Sp := sp3 fun x y z H Q => ∃ L b, ∃ k c : Nat, x = .ref L.b ∧ y = .int (k : Nat) ∧ z = .int (c : Nat) ∧ Start t L H b ∧ Fits (Ql46.on_ k c (b, [])).2 ∧ PostC t L H Q (Ql46.spec b (.on k c))
theorem ok_br_on (T : Txt K mg t) : FnOk P w K mg base CX0 10 t.f_br_on t.fd_br_on ["bridge", "place", "cost"] (sp_br_on K t) := by
  refine T.F_br_on.okQ sc_br_on sp3_len (fun cdv A outer s H vs Q E hr h => ?_)
  obtain ⟨x0, x1, x2, rfl, h⟩ := h
  obtain ⟨L, b, k0, c0, rfl, rfl, rfl, ⟨R, g, tk⟩, hfit, k⟩ := h
  obtain ⟨dx, tr, hb⟩ := R.br
  have k : PostC t L H Q (if k0 < 1 ∨ b.ports.length < k0 ∨ c0 < 1 ∨ 65535 < c0 then (b, Ql46.only (-1)) else Ql46.done (Ql46.on_ k0 c0 (b, []))) := k
  refine ⟨_, (qb_cons (qs_set (i := 3) sc_br_on.nd rfl (Or.inl rfl) (q_meth (qv 0) T.l_Bridge T.M_Bridge_port_at (ok_Bridge_port_at (K := K) T) (hr.mono (by decide)) T.b_Bridge_port_at .nil pass0 (qac (qv 1) qa_nil))) (qb_cons (qs_if (QW.pt (qw_or (qt_cmp op_isN (qv 3) q_non (nomark _)) (qw_or (qt_cmp op_lt (qv 2) q_int (nomark _)) (qw_or1 (qt_cmp op_gt (qv 2) (q_gi rfl T.c_MOST_COST) (nomark _)))))) (qb_one (qs_ret (q_call0 (ok_refusal (K := K) T) (hr.mono (by decide)) rfl T.m_refusal T.F_refusal.kp T.b_refusal .nil pass0))) qb_nil) (qb_cons (qs_if (qt_cmp op_eq (q_fld (K := K) rfl (qv 3) rfl) (q_gi rfl T.c_OFF) (nomark _)) (qb_cons (qs_fld (K := K) rfl (qv 3) (q_gi rfl T.c_BLOCKING) rfl) (qb_cons (qs_fld (K := K) rfl (qv 3) (qv 2) rfl) (qb_cons (qs_expr (q_meth (qv 0) T.l_Bridge T.M_Bridge_lead (ok_Bridge_lead (K := K) T) (hr.mono (by decide)) T.b_Bridge_lead .nil pass0 (qac (qv 3) qa_nil))) (qb_one (qs_expr (q_meth0 (qv 0) T.l_Bridge T.M_Bridge_set_states (ok_Bridge_set_states (K := K) T) (hr.mono (by decide)) T.b_Bridge_set_states .nil pass0)))))) qb_nil) (qb_one (qs_ret (q_call (ok_take_sent (K := K) T) (hr.mono (by decide)) rfl T.m_take_sent T.F_take_sent.kp T.b_take_sent .nil pass0 (qac (qv 0) qa_nil))))))), ?_⟩
  refine ⟨_, rfl, L.b, _, _, rfl, hb.at_, x_Bridge_port_at, _, rfl, _, _, rfl, L, _, k0, rfl, rfl, R, fun hno => ?_, fun i a ei hi => ?_⟩
  · rw [R.len] at hno
    refine ⟨_, rfl, rfl, _, rfl, ?_⟩
    refine ifD (fun _ => ?_) (fun z => absurd rfl z)
    walk_at "ift"
    rw [if_pos (by rcases hno with z | z; exact .inl z; exact .inr (.inl z))] at k
    exact r_refuse R.rp k
  subst ei
  refine ⟨_, rfl, rfl, _, rfl, ?_⟩
  refine ifD (fun z => nomatch z) (fun _ => ?_)
  refine ⟨_, rfl, _, _, rfl, rfl, _, rfl, ?_⟩
  refine ifD (fun c1 => ?_) (fun c1 => ?_)
  · walk_at "ift"
    rw [if_pos (.inr (.inr (.inl (by omega))))] at k
    exact r_refuse R.rp k
  refine ⟨_, rfl, _, _, rfl, rfl, _, rfl, ?_⟩
  refine ifD (fun c2 => ?_) (fun c2 => ?_)
  · rw [if_pos (.inr (.inr (.inr (by omega))))] at k
    exact r_refuse R.rp k
  have hil := R.ilt hi
  dsimp only at hil
  rw [if_neg (by omega)] at k
  obtain ⟨dp, lr, wc, hp⟩ := R.po i a hi
  unfold Ql46.on_ at k hfit
  dsimp only at k hfit
  refine ⟨_, rfl, a, _, _, _, _, rfl, hp.at_, T.l_Port, T.a_Port_state, g_Port_state, rfl, _, rfl, ?_⟩
  rw [show (V.int 0) = V.int ((0 : Nat) : Int) from rfl, int_beq]
  refine ifB (fun c3 => ?_) (fun c3 => ?_)
  · have h0 : (b.port (i + 1)).state = 0 := eq_of_beq c3
    rw [if_neg (fun z => z h0)] at k hfit
    obtain ⟨o1, o2, o3, o4, o5⟩ := g.off (i + 1) h0
    refine ⟨_, rfl, a, _, dp, _, rfl, hp.at_, T.l_Port, T.a_Port_state, few, ?_⟩
    refine ⟨_, rfl, _, rfl, a, _, dp, _, rfl, upd_same, T.l_Port, T.a_Port_way_cost, few, ?_⟩
    rw [upd_upd]
    let q : Ql46.Port := { Ql46.off with state := 1, pathCost := c0, root := (b.port (i + 1)).root, cost := (b.port (i + 1)).cost, bridge := (b.port (i + 1)).bridge, port := (b.port (i + 1)).port }
    have R1 : Rp t L H (upd H a (.ins t.C_Port dp (poF (i + 1) q lr c0))) (b.set (i + 1) q, []) := R.rp.setPort (dx := dp) (lr := lr) (wc := c0) hi (q := q) hp.lead fun _ => rfl
    have eF : putF "way_cost" (V.int (c0 : Nat)) (putF "state" (V.int 1) (poF (i + 1) (b.port (i + 1)) lr wc)) = poF (i + 1) q lr c0 := by
      unfold poF
      rw [o1, o2, o3, o4, o5]
      rfl
    rw [eF]
    have gq : Good (b.set (i + 1) q) := g.set (i + 1) sz (OffP.on (Nat.succ_ne_zero _))
    have elead : Ql46.lead (b.set (i + 1) { Ql46.off with state := 1, pathCost := c0 }) (i + 1) = Ql46.lead (b.set (i + 1) q) (i + 1) := by rw [lead_set hil, lead_set hil]
    unfold Ql46.Doing.on at k hfit
    dsimp only at k hfit
    rw [elead] at k hfit
    obtain ⟨dx1, tr1, hb1⟩ := R1.rep.br
    refine ⟨_, rfl, L.b, _, _, rfl, hb1.at_, x_Bridge_lead, _, rfl, _, _, rfl, L, _, i, a, rfl, rfl, hi, R1.rep, fun H2 R2 => ?_⟩
    have R2 := R1.trans R2
    have ok2 := ok_lead (b.set (i + 1) q) (i + 1) []
    obtain ⟨dx2, tr2, hb2⟩ := R2.rep.br
    refine ⟨_, rfl, L.b, _, _, rfl, hb2.at_, x_Bridge_set_states, _, rfl, L, _, rfl, R2.rep, ok2.good gq, by show 0 < 90000; decide, fun H3 R3 => ?_⟩
    exact r_done rfl (R2.trans R3).rep (R2.trans R3).ext hfit k
  · rw [if_pos (fun z => by rw [z] at c3; cases c3)] at k hfit
    exact r_done rfl R R.rp.ext hfit k
def sp_br_off (K : PySem.W.Frag) (t : Adr) : Sp := sp2 fun x y H Q => ∃ L b, ∃ k : Nat, x = .ref L.b ∧ y = .int (k : Nat) ∧ Start t L H b ∧ Fits (Ql46.off_ k (b, [])).2 ∧ PostC t L H Q (Ql46.spec b (.off k))
end
end Tb
local macro_rules | `(tactic| walk_at "ift") => `(tactic| (dsimp only; rw [if_pos rfl]))
local macro_rules | `(tactic| walk_at "iff") => `(tactic| (dsimp only; rw [if_neg Bool.false_ne_true]))
namespace Tb
open PySem PySem.Spec PyProof.Rows L2
section
variable {P : Program} {w : World} {K : PySem.W.Frag} {mg : Str → Option Value} {base : Heap} {t : Adr}
theorem Ok.good' {c : Nat} {b b' : Ql46.Bridge} {s s' : Ql46.Sent} (h : Ok c (b, s) (b', s')) (g : Good b) : Good b' := h.good g
theorem became_if (was : Bool) (d : Ql46.Doing) : Ql46.becameRoot was d = if d.1.isRoot = true ∧ was = false then Ql46.becameRoot false d else d := by
  unfold Ql46.becameRoot
  by_cases hc : d.1.isRoot = true ∧ was = false
  · rw [if_pos hc, if_pos hc, if_pos ⟨hc.1, rfl⟩]
  · rw [if_neg hc, if_neg hc]
def sp_Bridge_settle (K : PySem.W.Frag) (t : Adr) : Sp := sp1 fun x H Q => ∃ L d, x = .ref L.b ∧ Rep t L H d ∧ Good d.1 ∧ d.2.length < 70000 ∧ ∀ H', Rp t L H H' (Ql46.becameRoot d.1.isRoot (Ql46.states (Ql46.update d.1, d.2))) → Q .non H'
theorem ok_Bridge_settle (T : Txt K mg t) : FnOk P w K mg base CX0 10 t.f_Bridge_settle t.fd_Bridge_settle ["self"] (sp_Bridge_settle K t) := by
  refine T.F_Bridge_settle.okQ sc_Bridge_settle sp1_len (fun cdv A outer s H vs Q E hr h => ?_)
  obtain ⟨x0, rfl, h⟩ := h
  obtain ⟨L, d, rfl, R, g, hz, k⟩ := h
  obtain ⟨dx, tr, hb⟩ := R.br
  refine ⟨_, (qb_cons (qs_set (i := 1) sc_Bridge_settle.nd rfl (Or.inl rfl) (q_meth0 (qv 0) T.l_Bridge T.M_Bridge_is_root (ok_Bridge_is_root (K := K) T) (hr.mono (by decide)) T.b_Bridge_is_root .nil pass0)) (qb_cons (qs_expr (q_meth0 (qv 0) T.l_Bridge T.M_Bridge_update_tree (ok_Bridge_update_tree (K := K) T) (hr.mono (by decide)) T.b_Bridge_update_tree .nil pass0)) (qb_cons (qs_expr (q_meth0 (qv 0) T.l_Bridge T.M_Bridge_set_states (ok_Bridge_set_states (K := K) T) (hr.mono (by decide)) T.b_Bridge_set_states .nil pass0)) (qb_one (qs_if (QW.pt (qw_and (qt_val (q_meth0 (qv 0) T.l_Bridge T.M_Bridge_is_root (ok_Bridge_is_root (K := K) T) (hr.mono (by decide)) T.b_Bridge_is_root .nil pass0)) (qw_and1 (qt_not (qt_val (qv 1)))))) (qb_one (qs_expr (q_meth0 (qv 0) T.l_Bridge T.M_Bridge_become_root (ok_Bridge_become_root (K := K) T) (hr.mono (by decide)) T.b_Bridge_become_root .nil pass0))) qb_nil))))), ?_⟩
  refine ⟨_, rfl, L.b, _, _, rfl, hb.at_, x_Bridge_is_root, _, rfl, L, _, rfl, R, ?_⟩
  refine ⟨_, rfl, L.b, _, _, rfl, hb.at_, x_Bridge_update_tree, _, rfl, L, _, rfl, R, g, by omega, fun H4 R4 => ?_⟩
  have g4 := (ok_update d.1 d.2).good' g
  obtain ⟨dx5, tr5, hb5⟩ := R4.rep.br
  refine ⟨_, rfl, L.b, _, _, rfl, hb5.at_, x_Bridge_set_states, _, rfl, L, _, rfl, R4.rep, g4, by show d.2.length < _; omega, fun H5 R5 => ?_⟩
  have R5 := R4.trans R5
  have ok5 := ok_states (Ql46.update d.1, d.2)
  revert R5 k ok5
  generalize Ql46.states (Ql46.update d.1, d.2) = d5
  intro k R5 ok5
  have g5 := ok5.good g4
  obtain ⟨dx6, tr6, hb6⟩ := R5.rep.br
  refine ⟨_, rfl, L.b, _, _, rfl, hb6.at_, x_Bridge_is_root, _, rfl, L, _, rfl, R5.rep, ?_⟩
  rw [became_if] at k
  cases hr : d5.1.isRoot with
  | false =>
    rw [hr, if_neg (fun z => nomatch z.1)] at k
    refine ⟨_, rfl, ?_⟩
    walk_at "iff"
    exact k _ R5
  | true =>
    rw [hr] at k
    refine ⟨_, rfl, ?_⟩
    walk_at "ift"
    refine ⟨_, rfl, _, rfl, ?_⟩
    cases hw : d.1.isRoot with
    | false =>
      rw [hw, if_pos ⟨rfl, rfl⟩] at k
      rw [show (!false) = true from rfl, if_pos rfl]
      exact ⟨_, rfl, L.b, _, _, rfl, hb6.at_, x_Bridge_become_root, _, rfl, L, _, rfl, R5.rep, g5, hr, by have h1 := ok5.few; have h2 := g4.few; dsimp only at h1; omega, fun H6 R6 => k _ (R5.trans R6)⟩
    | true =>
      rw [hw, if_neg (fun z => nomatch z.2)] at k
      rw [show (!true) = false from rfl, if_neg Bool.false_ne_true]
      exact k _ R5
theorem ok_br_off (T : Txt K mg t) : FnOk P w K mg base CX0 11 t.f_br_off t.fd_br_off ["bridge", "place"] (sp_br_off K t) := by
  refine T.F_br_off.okQ sc_br_off sp2_len (fun cdv A outer s H vs Q E hr h => ?_)
  obtain ⟨x0, x1, rfl, h⟩ := h
  obtain ⟨L, b, k0, rfl, rfl, ⟨R, g, tk⟩, hfit, k⟩ := h
  obtain ⟨dx, tr, hb⟩ := R.br
  have k : PostC t L H Q (if k0 < 1 ∨ b.ports.length < k0 then (b, Ql46.only (-1)) else Ql46.done (Ql46.off_ k0 (b, []))) := k
  refine ⟨_, (qb_cons (qs_set (i := 2) sc_br_off.nd rfl (Or.inl rfl) (q_meth (qv 0) T.l_Bridge T.M_Bridge_port_at (ok_Bridge_port_at (K := K) T) (hr.mono (by decide)) T.b_Bridge_port_at .nil pass0 (qac (qv 1) qa_nil))) (qb_cons (qs_if (qt_cmp op_isN (qv 2) q_non (nomark _)) (qb_one (qs_ret (q_call0 (ok_refusal (K := K) T) (hr.mono (by decide)) rfl T.m_refusal T.F_refusal.kp T.b_refusal .nil pass0))) qb_nil) (qb_cons (qs_if (qt_cmp op_ne (q_fld (K := K) rfl (qv 2) rfl) (q_gi rfl T.c_OFF) (nomark _)) (qb_cons (qs_expr (q_meth0 (qv 2) T.l_Port T.M_Port_turn_off (ok_Port_turn_off (K := K) T) (hr.mono (by decide)) T.b_Port_turn_off .nil pass0)) (qb_cons (qs_expr (q_meth (qv 0) T.l_Bridge T.M_Bridge_lead (ok_Bridge_lead (K := K) T) (hr.mono (by decide)) T.b_Bridge_lead .nil pass0 (qac (qv 2) qa_nil))) (qb_cons (qs_expr (q_meth (q_fld (K := K) rfl (qv 0) rfl) T.l_Addresses T.M_Addresses_forget_place (ok_Addresses_forget_place (K := K) T) (hr.mono (by decide)) T.b_Addresses_forget_place .nil pass0 (qac (qv 1) qa_nil))) (qb_one (qs_expr (q_meth0 (qv 0) T.l_Bridge T.M_Bridge_settle (ok_Bridge_settle (K := K) T) (hr.mono (by decide)) T.b_Bridge_settle .nil pass0)))))) qb_nil) (qb_one (qs_ret (q_call (ok_take_sent (K := K) T) (hr.mono (by decide)) rfl T.m_take_sent T.F_take_sent.kp T.b_take_sent .nil pass0 (qac (qv 0) qa_nil))))))), ?_⟩
  refine ⟨_, rfl, L.b, _, _, rfl, hb.at_, x_Bridge_port_at, _, rfl, _, _, rfl, L, _, k0, rfl, rfl, R, fun hno => ?_, fun i a ei hi => ?_⟩
  · rw [R.len] at hno
    refine ⟨_, rfl, rfl, _, rfl, ?_⟩
    refine ifD (fun _ => ?_) (fun z => absurd rfl z)
    rw [if_pos hno] at k
    exact r_refuse R.rp k
  subst ei
  refine ⟨_, rfl, rfl, _, rfl, ?_⟩
  refine ifD (fun z => nomatch z) (fun _ => ?_)
  have hil := R.ilt hi
  dsimp only at hil
  rw [if_neg (by omega)] at k
  obtain ⟨dp, lr, wc, hp⟩ := R.po i a hi
  unfold Ql46.off_ at k hfit
  dsimp only at k hfit
  refine ⟨_, rfl, a, _, _, _, _, rfl, hp.at_, T.l_Port, T.a_Port_state, g_Port_state, rfl, _, rfl, ?_⟩
  rw [show (V.int 0) = V.int ((0 : Nat) : Int) from rfl, int_bne]
  refine ifB (fun c3 => ?_) (fun c3 => ?_)
  · have h0 : (b.port (i + 1)).state ≠ 0 := by have := c3; simpa using this
    rw [if_neg h0] at k hfit
    refine ⟨_, rfl, a, _, _, rfl, hp.at_, x_Port_turn_off, _, rfl, a, dp, _, rfl, hp.at_, by unfold poF; show 10 < 800; decide, rfl, ?_⟩
    let q : Ql46.Port := { Ql46.off with pathCost := (b.port (i + 1)).pathCost, root := (b.port (i + 1)).root, cost := (b.port (i + 1)).cost, bridge := (b.port (i + 1)).bridge, port := (b.port (i + 1)).port }
    have R1 : Rp t L H (upd H a (.ins t.C_Port dp (poF (i + 1) q lr wc))) (b.set (i + 1) q, []) := R.rp.setPort (dx := dp) (lr := lr) (wc := wc) hi (q := q) hp.lead fun z => absurd rfl z
    have eF : offF (poF (i + 1) (b.port (i + 1)) lr wc) = poF (i + 1) q lr wc := rfl
    rw [eF]
    have gq : Good (b.set (i + 1) q) := g.set (i + 1) sz (fun _ => ⟨rfl, rfl, rfl, rfl, rfl⟩)
    have elead : Ql46.lead (b.set (i + 1) { Ql46.off with pathCost := (b.port (i + 1)).pathCost }) (i + 1) = Ql46.lead (b.set (i + 1) q) (i + 1) := by rw [lead_set hil, lead_set hil]
    unfold Ql46.Doing.on at k hfit
    dsimp only at k hfit
    rw [elead] at k hfit
    obtain ⟨dx1, tr1, hb1⟩ := R1.rep.br
    refine ⟨_, rfl, L.b, _, _, rfl, hb1.at_, x_Bridge_lead, _, rfl, _, _, rfl, L, _, i, a, rfl, rfl, hi, R1.rep, fun H2 R2 => ?_⟩
    have R2 := R1.trans R2
    have ok2 := ok_lead (b.set (i + 1) q) (i + 1) []
    have g2 := ok2.good' gq
    have tk2 : TabOk (Ql46.lead (b.set (i + 1) q) (i + 1)) := tk.of rfl
    obtain ⟨dx2, tr2, hb2⟩ := R2.rep.br
    obtain ⟨da2, ha2⟩ := R2.rep.ad
    refine ⟨_, rfl, L.b, _, _, _, _, rfl, hb2.at_, T.l_Bridge, T.a_Bridge_addresses, g_Bridge_addresses, L.ad, _, _, rfl, ha2, x_Addresses_forget_place, _, rfl, _, _, rfl, L, _, i + 1, rfl, rfl, R2.rep, tk2, fun H3 q3 R3 kp3 fq3 => ?_⟩
    have x3 : Ext L { L with hd := q3 } H H3 := R2.ext.trans (ext_hd kp3 fq3)
    generalize hL3 : ({ L with hd := q3 } : Lay) = L3 at R3 x3
    have hb3 : L.b = L3.b := by rw [← hL3]
    have g3 : Good { Ql46.lead (b.set (i + 1) q) (i + 1) with table := (Ql46.lead (b.set (i + 1) q) (i + 1)).table.filter fun x => x.2.1 != i + 1 } := g2.of rfl rfl rfl rfl
    have et : (Ql46.lead (b.set (i + 1) q) (i + 1)).table = b.table := rfl
    rw [et] at R3 g3
    dsimp only at R3 g3
    have er : ({ Ql46.lead (b.set (i + 1) q) (i + 1) with table := b.table.filter fun x => x.2.1 != i + 1 } : Ql46.Bridge).isRoot = b.isRoot := rfl
    revert R3 g3 k hfit er
    generalize ({ Ql46.lead (b.set (i + 1) q) (i + 1) with table := b.table.filter fun x => x.2.1 != i + 1 } : Ql46.Bridge) = b3
    intro hfit k R3 g3 er
    rw [← er] at k hfit
    rw [hb3]
    obtain ⟨dx4, tr4, hb4⟩ := R3.br
    refine ⟨_, rfl, L3.b, _, _, rfl, hb4.at_, x_Bridge_settle, _, rfl, L3, _, rfl, R3, g3, by show 0 < 70000; decide, fun H4 R4 => ?_⟩
    exact r_done rfl R4.rep (x3.trans R4.ext) hfit k
  · rw [if_pos (by have := c3; simpa using this)] at k hfit
    exact r_done rfl R R.rp.ext hfit k
def sp_br_frame (K : PySem.W.Frag) (t : Adr) : Sp := sp3 fun x y z H Q => ∃ L b f fr, ∃ k : Nat, x = .ref L.b ∧ y = .int (k : Nat) ∧ z = .ref f ∧ H f = some (.lst (bts fr)) ∧ f ≠ L.sl ∧ fr.length ≤ 16000 ∧ Start t L H b ∧ (1 ≤ k → Fits (Ql46.frame k fr (b, [])).2) ∧ PostC t L H Q (Ql46.spec b (.frame k fr fr.length))
theorem ok_br_frame (T : Txt K mg t) : FnOk P w K mg base CX0 13 t.f_br_frame t.fd_br_frame ["bridge", "place", "frame"] (sp_br_frame K t) := by
  refine T.F_br_frame.okQ sc_br_frame sp3_len (fun cdv A outer s H vs Q E hr h => ?_)
  obtain ⟨x0, x1, x2, rfl, h⟩ := h
  obtain ⟨L, b, f, fr, k0, rfl, rfl, rfl, hf, hn, hl, ⟨R, g, tk⟩, hfit, k⟩ := h
  obtain ⟨dx, tr, hb⟩ := R.br
  have k : PostC t L H Q (if k0 < 1 ∨ b.ports.length < k0 ∨ 2048 < fr.length then (b, Ql46.only (-1)) else Ql46.done (Ql46.frame k0 fr (b, []))) := k
  refine ⟨_, (qb_cons (qs_set (i := 3) sc_br_frame.nd rfl (Or.inl rfl) (q_meth (qv 0) T.l_Bridge T.M_Bridge_port_at (ok_Bridge_port_at (K := K) T) (hr.mono (by decide)) T.b_Bridge_port_at .nil pass0 (qac (qv 1) qa_nil))) (qb_cons (qs_if (QW.pt (qw_or (qt_cmp op_isN (qv 3) q_non (nomark _)) (qw_or1 (qt_cmp op_gt (q_callB (k_len (K := K) rfl) rfl T.n_len PySem.boot_len (qac (qv 2) qa_nil)) (q_gi rfl T.c_MOST_BYTES) (nomark _))))) (qb_one (qs_ret (q_call0 (ok_refusal (K := K) T) (hr.mono (by decide)) rfl T.m_refusal T.F_refusal.kp T.b_refusal .nil pass0))) qb_nil) (qb_cons (qs_if (QW.pt (qw_and (qt_cmp op_ne (q_fld (K := K) rfl (qv 3) rfl) (q_gi rfl T.c_OFF) (nomark _)) (qw_and1 (qt_cmp op_ge (q_callB (k_len (K := K) rfl) rfl T.n_len PySem.boot_len (qac (qv 2) qa_nil)) (q_gi rfl T.c_LEAST_BYTES) (nomark _))))) (qb_one (qs_expr (q_call (ok_take_frame (K := K) T) (hr.mono (by decide)) rfl T.m_take_frame T.F_take_frame.kp T.b_take_frame .nil pass0 (qac (qv 0) (qac (qv 3) (qac (qv 2) qa_nil)))))) qb_nil) (qb_one (qs_ret (q_call (ok_take_sent (K := K) T) (hr.mono (by decide)) rfl T.m_take_sent T.F_take_sent.kp T.b_take_sent .nil pass0 (qac (qv 0) qa_nil))))))), ?_⟩
  refine ⟨_, rfl, L.b, _, _, rfl, hb.at_, x_Bridge_port_at, _, rfl, _, _, rfl, L, _, k0, rfl, rfl, R, fun hno => ?_, fun i a ei hi => ?_⟩
  · rw [R.len] at hno
    refine ⟨_, rfl, rfl, _, rfl, ?_⟩
    refine ifD (fun _ => ?_) (fun z => absurd rfl z)
    walk_at "ift"
    rw [if_pos (by rcases hno with z | z; exact .inl z; exact .inr (.inl z))] at k
    exact r_refuse R.rp k
  subst ei
  have hfit := hfit (Nat.le_add_left 1 i)
  refine ⟨_, rfl, rfl, _, rfl, ?_⟩
  refine ifD (fun z => nomatch z) (fun _ => ?_)
  have hil := R.ilt hi
  dsimp only at hil
  have el : (bts fr).length = fr.length := by unfold bts; rw [List.length_map]
  refine ⟨_, rfl, _, _, rfl, .inl (SqL.of hf), _, _, rfl, rfl, _, rfl, ?_⟩
  rw [el]
  refine ifD (fun c1 => ?_) (fun c1 => ?_)
  · rw [if_pos (.inr (.inr (by omega)))] at k
    exact r_refuse R.rp k
  rw [if_neg (by omega)] at k
  rw [frame_eq] at k hfit
  obtain ⟨dp, lr, wc, hp⟩ := R.po i a hi
  refine ⟨_, rfl, a, _, _, _, _, rfl, hp.at_, T.l_Port, T.a_Port_state, g_Port_state, rfl, _, rfl, ?_⟩
  rw [show (V.int 0) = V.int ((0 : Nat) : Int) from rfl, int_bne]
  refine ifB (fun c3 => ?_) (fun c3 => ?_)
  · have h0 : (b.port (i + 1)).state ≠ 0 := by have := c3; simpa using this
    refine ⟨_, rfl, _, _, rfl, .inl (SqL.of hf), _, _, rfl, rfl, _, rfl, ?_⟩
    rw [el]
    refine ifD (fun c2 => ?_) (fun c2 => ?_)
    · rw [if_neg (by intro z; rcases z with z | z; exact h0 z; omega)] at k hfit
      refine ⟨_, rfl, _, rfl, _, rfl, _, _, _, rfl, L, _, i, a, f, fr, rfl, rfl, rfl, hi, R, hf, hn, by omega, tk, g, h0, by show 0 < 60000; decide, fun H2 R2 => ?_⟩
      exact r_done rfl R2.rep R2.ext hfit k
    · rw [if_pos (.inr (by omega))] at k hfit
      exact r_done rfl R R.rp.ext hfit k
  · rw [if_pos (.inl (by have := c3; simpa using this))] at k hfit
    walk_at "iff"
    exact r_done rfl R R.rp.ext hfit k
end
end Tb
namespace Tb
open Ql46 (Doing Bridge)
structure Ns (c : Nat) (d d' : Doing) : Prop where
  ok : Ok c d d'
  short : ∀ x ∈ d'.2, x ∈ d.2 ∨ x.2.length ≤ 52
theorem Ns.same {c : Nat} {d d' : Doing} (h : Ok c d d') (e : d'.2 = d.2) : Ns c d d' := ⟨h, fun x m => .inl (by rw [← e]; exact m)⟩
theorem Ns.refl (d : Doing) : Ns 0 d d := .same (.refl d) rfl
theorem Ns.mono {c c' : Nat} {d d' : Doing} (h : Ns c d d') (hc : c ≤ c') : Ns c' d d' := ⟨h.ok.mono hc, h.short⟩
theorem Ns.trans {c c' : Nat} {d d' e : Doing} (h : Ns c d d') (h' : Ns c' d' e) : Ns (c + c') d e := ⟨h.ok.trans h'.ok, fun x m => (h'.short x m).elim (h.short x) .inr⟩
theorem Ns.itr {f : Nat → Doing → Doing} {c : Nat} (h : ∀ k d, Ns c d (f k d)) : ∀ (n : Nat) (d : Doing), Ns (n * c) d (itr f n d)
  | 0, d => ⟨Ok.itr (fun k d => (h k d).ok) 0 d, fun x m => .inl m⟩
  | n + 1, d => by
    have := (Ns.itr h n d).trans (h (n + 1) (Tb.itr f n d))
    rw [Nat.succ_mul]; exact this
theorem framed_len (b : Bridge) (m : List Nat) : (Ql46.framed b m).length = 17 + m.length := by
  unfold Ql46.framed
  simp only [List.length_append, be_len, List.length_cons, List.length_nil]
  omega
theorem bytesOf_len (s : Ql46.Says) : (Ql46.bytesOf s).length = 35 := by
  unfold Ql46.bytesOf
  simp only [List.length_append, be_len, List.length_cons, List.length_nil]
theorem ns_set (d : Doing) (k : Nat) (q : Ql46.Port) (h : Good d.1 → q.state ≤ 4) (ho : Good d.1 → OffP q) (hw : Good d.1 → WtP q := by first | exact fun g => g.wt _ | exact fun _ => .inl rfl | exact fun _ => .inr (.inl rfl) | exact fun _ => .inr (.inr rfl)) : Ns 0 d (d.1.set k q, d.2) := .same (ok_set d k q h ho hw) rfl
theorem ns_tell' (k : Nat) (d : Doing) (hn : Good d.1 → (d.1.port k).state ≠ 0) : Ns 1 d (Ql46.tell k d) := by
  rw [tell_eq]
  split
  · exact (ns_set d k { d.1.port k with pending := true } (fun g => g.st k) fun g => OffP.on (hn g)).mono (Nat.zero_le _)
  · split
    · refine ⟨⟨fun g => g.set k (g.st k) (OffP.on (hn g)), set_len _ _ _, ?_, rfl⟩, fun x m => ?_⟩
      · rw [List.length_append]; exact Nat.le_refl _
      · rcases List.mem_append.mp m with m | m
        · exact .inl m
        · have e := List.mem_singleton.mp m
          subst e
          exact .inr (by show (Ql46.framed d.1 (Ql46.bytesOf (saysOf d.1 k))).length ≤ 52; rw [framed_len, bytesOf_len]; decide)
    · exact (Ns.refl d).mono (by first | exact Nat.zero_le _ | decide)
theorem ns_tellTurn (k : Nat) (d : Doing) : Ns 1 d (tellTurn k d) := by
  unfold tellTurn
  split
  · rename_i h
    exact ns_tell' k d fun _ => h.2
  · exact (Ns.refl d).mono (by first | exact Nat.zero_le _ | decide)
theorem ns_tellAll (d : Doing) : Ns d.1.ports.length d (Ql46.tellAll d) := by
  rw [tellAll_itr]
  have := Ns.itr ns_tellTurn d.1.ports.length d
  rw [Nat.mul_one] at this; exact this
theorem ns_ask (d : Doing) : Ns 1 d (Ql46.ask d) := ⟨ok_ask d, fun x m => by
  unfold Ql46.ask at m
  rcases List.mem_append.mp m with m | m
  · exact .inl m
  · have e := List.mem_singleton.mp m
    subst e
    exact .inr (by rw [framed_len]; decide)⟩
theorem ns_changed (d : Doing) : Ns 1 d (Ql46.changed d) := ⟨ok_changed d, fun x m => by
  unfold Ql46.changed at m
  dsimp only at m
  split at m
  · exact .inl m
  · split at m
    · exact (ns_ask _).short x m
    · exact .inl m⟩
theorem ns_block (k : Nat) (d : Doing) : Ns 1 d (Ql46.block k d) := ⟨ok_block k d, fun x m => by
  unfold Ql46.block at m
  dsimp only at m
  split at m
  · exact .inl m
  · split at m
    · exact (ns_changed d).short x m
    · exact .inl m⟩
theorem ns_stateTurn (k : Nat) (d : Doing) : Ns 1 d (stateTurn k d) := ⟨ok_stateTurn k d, fun x m => by
  unfold stateTurn at m
  split at m
  · exact .inl m
  · split at m
    · exact .inl m
    · split at m
      · exact .inl m
      · exact (ns_block k (d.1.set k { d.1.port k with pending := false, known := false }, d.2)).short x m⟩
theorem ns_states (d : Doing) : Ns d.1.ports.length d (Ql46.states d) := by
  rw [states_itr]
  have := Ns.itr ns_stateTurn d.1.ports.length d
  rw [Nat.mul_one] at this; exact this
theorem ns_update (b : Bridge) (s : Ql46.Sent) : Ns 0 (b, s) (Ql46.update b, s) := .same (ok_update b s) rfl
theorem ns_own {b b' : Bridge} (s : Ql46.Sent) (h1 : b'.id = b.id) (h2 : b'.root = b.root) (h3 : b'.rootPort = b.rootPort) (h4 : b'.ports = b.ports) (h5 : b'.table = b.table) : Ns 0 (b, s) (b', s) := ⟨⟨fun g => g.of h1 h2 h3 h4, congrArg List.length h4, Nat.le_refl _, h5⟩, fun _ m => .inl m⟩
theorem ns_stopped (was : Bool) (d : Doing) : Ns 1 d (stopped was d) := ⟨ok_stopped was d, fun x m => by
  unfold stopped at m
  dsimp only at m
  split at m
  · split at m
    · exact (ns_ask _).short x m
    · exact .inl m
  · exact .inl m⟩
theorem ns_becameRoot (was : Bool) (d : Doing) : Ns (1 + d.1.ports.length) d (Ql46.becameRoot was d) := by
  unfold Ql46.becameRoot Ql46.Doing.on
  dsimp only
  split
  · have h1 := ns_own (b := d.1) (b' := { d.1 with maxAge := Ql46.MAXAGE, hello := Ql46.HELLO, delay := Ql46.DELAY, asking := none }) d.2 rfl rfl rfl rfl rfl
    have h2 := h1.trans (ns_changed _)
    have h3 := h2.trans (ns_tellAll _)
    rw [h2.ok.len] at h3
    have h4 := h3.trans (ns_own (b' := { (Ql46.tellAll (Ql46.changed ({ d.1 with maxAge := Ql46.MAXAGE, hello := Ql46.HELLO, delay := Ql46.DELAY, asking := none }, d.2))).1 with telling := some 0 }) _ rfl rfl rfl rfl rfl)
    exact h4.mono (by dsimp only; omega)
  · exact (Ns.refl d).mono (Nat.zero_le _)
theorem ns_learnt (k : Nat) (s : Ql46.Says) (d : Doing) (hn : (d.1.port k).state ≠ 0) : Ns d.1.ports.length d (learnt k s d) := by
  have h1 := ns_set d k { d.1.port k with root := s.root, cost := s.cost, bridge := s.bridge, port := s.port, age := some s.age } (fun g => g.st k) fun _ => OffP.on hn
  have h2 := h1.trans (ns_update (d.1.set k { d.1.port k with root := s.root, cost := s.cost, bridge := s.bridge, port := s.port, age := some s.age }) d.2)
  have h3 := h2.trans (ns_states _)
  rw [h2.ok.len] at h3
  exact h3.mono (by omega)
theorem ns_followed (s : Ql46.Says) (d : Doing) : Ns d.1.ports.length d (followed s d) := by
  unfold followed
  dsimp only
  have h1 := ns_own (b := d.1) (b' := { d.1 with maxAge := s.maxAge, hello := s.hello, delay := s.delay, change := s.change }) d.2 rfl rfl rfl rfl rfl
  have h2 := h1.trans (ns_tellAll _)
  split
  · exact (h2.trans (ns_own (b' := { (Ql46.tellAll ({ d.1 with maxAge := s.maxAge, hello := s.hello, delay := s.delay, change := s.change }, d.2)).1 with found := false, asking := none }) _ rfl rfl rfl rfl rfl)).mono (by dsimp only; omega)
  · exact h2.mono (by dsimp only; omega)
theorem ns_hear (k : Nat) (s : Ql46.Says) (d : Doing) (hn : (d.1.port k).state ≠ 0) : Ns (2 * d.1.ports.length + 1) d (Ql46.hear k s d) := by
  rw [hear_eq k s d hn]
  split
  · unfold hearB
    dsimp only
    have h1 := (ns_learnt k s d hn).trans (ns_stopped d.1.isRoot _)
    split
    · have h2 := h1.trans (ns_followed s _)
      rw [h1.ok.len] at h2
      exact h2.mono (by omega)
    · exact h1.mono (by omega)
  · split
    · exact (ns_tell' k d fun _ => hn).mono (by omega)
    · exact (Ns.refl d).mono (Nat.zero_le _)
theorem ns_hearChange (k : Nat) (d : Doing) : Ns 2 d (Ql46.hearChange k d) := by
  unfold Ql46.hearChange Ql46.Doing.on
  dsimp only
  split
  · rename_i h
    have h1 := ns_changed d
    have e : (Ql46.changed d).1.ports = d.1.ports := by
      unfold Ql46.changed Ql46.ask
      dsimp only
      split
      · rfl
      · split <;> rfl
    have e2 : ((Ql46.changed d).1.port k).state ≠ 0 := by unfold Ql46.Bridge.port; rw [e]; exact h.1
    have h2 := h1.trans (ns_set _ k { (Ql46.changed d).1.port k with known := true } (fun g => g.st k) fun _ => OffP.on e2)
    refine (h2.trans (ns_tell' k _ fun _ => ?_)).mono (by decide)
    rcases port_of_set (Ql46.changed d).1 k k { (Ql46.changed d).1.port k with known := true } with z | z
    · rw [z]; exact e2
    · rw [z]; exact e2
  · exact (Ns.refl d).mono (Nat.zero_le _)
theorem ns_heard (k : Nat) (m : List Nat) (d : Doing) (hn : (d.1.port k).state ≠ 0) : Ns (2 * d.1.ports.length + 2) d (heard k m d) := by
  unfold heard
  split
  · exact (ns_hear k _ d hn).mono (by omega)
  · exact (ns_hearChange k d).mono (by omega)
  · exact (Ns.refl d).mono (Nat.zero_le _)
end Tb
namespace Tb
open Ql46 (Doing Bridge)
def idle (q : Ql46.Port) : Bool := q.hold.isNone
def phi (b : Bridge) : Nat := b.ports.countP idle
theorem phi_le (b : Bridge) : phi b ≤ b.ports.length := List.countP_le_length
theorem port_in {b : Bridge} {k : Nat} (h : k - 1 < b.ports.length) : b.ports[k - 1] = b.port k := by
  unfold Ql46.Bridge.port
  rw [List.getD_eq_getElem?_getD, List.getElem?_eq_getElem h]; rfl
theorem port_out {b : Bridge} {k : Nat} (h : ¬ k - 1 < b.ports.length) : b.port k = Ql46.off := by
  unfold Ql46.Bridge.port
  rw [List.getD_eq_getElem?_getD, List.getElem?_eq_none (by omega)]; rfl
theorem idle_pos {b : Bridge} {k : Nat} (h : k - 1 < b.ports.length) (e : idle (b.port k) = true) : 1 ≤ phi b := by
  unfold phi
  refine List.countP_pos_iff.mpr ⟨b.port k, ?_, e⟩
  rw [← port_in h]; exact List.getElem_mem h
theorem phi_set (b : Bridge) (k : Nat) (q : Ql46.Port) : phi (b.set k q) ≤ phi b + 1 := by
  by_cases h : k - 1 < b.ports.length
  · unfold phi Ql46.Bridge.set
    dsimp only
    rw [List.countP_set h]
    split <;> split <;> omega
  · unfold phi Ql46.Bridge.set
    dsimp only
    rw [List.set_eq_of_length_le (by omega)]; omega
theorem phi_same (b : Bridge) (k : Nat) (q : Ql46.Port) (hq : idle q = true → idle (b.port k) = true) : phi (b.set k q) ≤ phi b := by
  by_cases h : k - 1 < b.ports.length
  · have e := idle_pos h
    unfold phi Ql46.Bridge.set at *
    dsimp only
    rw [List.countP_set h, port_in h]
    cases h1 : idle q with
    | true =>
      have := e (hq h1)
      rw [if_pos (hq h1), if_pos rfl]
      omega
    | false =>
      rw [if_neg (c := false = true) (by decide)]
      omega
  · unfold phi Ql46.Bridge.set
    dsimp only
    rw [List.set_eq_of_length_le (by omega)]; omega
theorem phi_less {b : Bridge} {k : Nat} {q : Ql46.Port} (h : k - 1 < b.ports.length) (h1 : idle (b.port k) = true) (h2 : idle q = false) : phi (b.set k q) + 1 ≤ phi b := by
  have e := idle_pos h h1
  unfold phi Ql46.Bridge.set at *
  dsimp only
  rw [List.countP_set h, port_in h, h1, h2, if_pos rfl, if_neg (by decide)]
  omega
def owed (b : Bridge) : Nat := 54 * phi b + if b.found = true then 0 else 23
def W (d : Doing) : Nat := (sentN d.2).length + owed d.1
def Wt (c : Nat) (d d' : Doing) : Prop := W d' ≤ W d + c
theorem Wt.refl (d : Doing) : Wt 0 d d := Nat.le_refl _
theorem Wt.mono {c c' : Nat} {d d' : Doing} (h : Wt c d d') (hc : c ≤ c') : Wt c' d d' := Nat.le_trans h (by omega)
theorem Wt.trans {c c' : Nat} {d d' e : Doing} (h : Wt c d d') (h' : Wt c' d' e) : Wt (c + c') d e := by unfold Wt at *; omega
theorem Wt.itr {f : Nat → Doing → Doing} {c : Nat} (h : ∀ k d, Wt c d (f k d)) : ∀ (n : Nat) (d : Doing), Wt (n * c) d (itr f n d)
  | 0, d => by rw [Nat.zero_mul]; exact Wt.refl d
  | n + 1, d => by
    have := (Wt.itr h n d).trans (h (n + 1) (Tb.itr f n d))
    rw [Nat.succ_mul]; exact this
theorem wt_b {b b' : Bridge} {c : Nat} (s : Ql46.Sent) (h : owed b' ≤ owed b + c) : Wt c (b, s) (b', s) := by unfold Wt W; dsimp only; omega
theorem wt_set (d : Doing) (k : Nat) (q : Ql46.Port) (hq : idle q = true → idle (d.1.port k) = true) : Wt 0 d (d.1.set k q, d.2) := by
  refine wt_b (b := d.1) d.2 ?_
  have := phi_same d.1 k q hq
  unfold owed
  rw [show (d.1.set k q).found = d.1.found from rfl]
  omega
theorem wt_set1 (d : Doing) (k : Nat) (q : Ql46.Port) : Wt 54 d (d.1.set k q, d.2) := by
  refine wt_b (b := d.1) d.2 ?_
  have := phi_set d.1 k q
  unfold owed
  rw [show (d.1.set k q).found = d.1.found from rfl]
  omega
theorem wt_own {b b' : Bridge} (s : Ql46.Sent) (h4 : b'.ports = b.ports) (h5 : b'.found = b.found) : Wt 0 (b, s) (b', s) := wt_b s (by unfold owed phi; rw [h4, h5]; exact Nat.le_refl _)
theorem wt_own23 {b b' : Bridge} (s : Ql46.Sent) (h4 : b'.ports = b.ports) : Wt 23 (b, s) (b', s) := wt_b s (by unfold owed phi; rw [h4]; split <;> split <;> omega)
theorem sentN_snoc (s : Ql46.Sent) (k : Nat) (f : List Nat) : (sentN (s ++ [(k, f)])).length = (sentN s).length + (2 + f.length) := by
  unfold sentN
  rw [List.flatMap_append, List.length_append]
  simp only [List.flatMap_cons, List.flatMap_nil, List.append_nil, List.length_cons]
  omega
theorem wt_tell (k : Nat) (d : Doing) (hk : k - 1 < d.1.ports.length) : Wt 0 d (Ql46.tell k d) := by
  rw [tell_eq]
  split
  · exact wt_set d k { d.1.port k with pending := true } fun h => h
  · rename_i hh
    have hi : idle (d.1.port k) = true := by
      unfold idle
      cases e : (d.1.port k).hold with
      | none => rfl
      | some x => rw [e] at hh; exact absurd rfl hh
    split
    · unfold Wt W
      dsimp only
      rw [sentN_snoc, frm_len, bytesOf_len]
      have := phi_less (q := { d.1.port k with known := false, pending := false, hold := some 0 }) hk hi rfl
      dsimp only at this
      unfold owed
      rw [show (d.1.set k { d.1.port k with known := false, pending := false, hold := some 0 }).found = d.1.found from rfl]
      omega
    · exact Wt.refl d
theorem in_of_on {b : Bridge} {k : Nat} (h : (b.port k).state ≠ 0) : k - 1 < b.ports.length := Classical.byContradiction fun z => h (by rw [port_out z]; rfl)
theorem wt_tellTurn (k : Nat) (d : Doing) : Wt 0 d (tellTurn k d) := by
  unfold tellTurn
  split
  · rename_i h
    exact wt_tell k d (in_of_on h.2)
  · exact Wt.refl d
theorem wt_tellAll (d : Doing) : Wt 0 d (Ql46.tellAll d) := by
  rw [tellAll_itr]
  have := Wt.itr wt_tellTurn d.1.ports.length d
  rw [Nat.mul_zero] at this; exact this
theorem wt_ask (d : Doing) : Wt 23 d (Ql46.ask d) := by
  unfold Wt W Ql46.ask
  dsimp only
  rw [sentN_snoc, framed_len]
  simp only [List.length_cons, List.length_nil]
  omega
theorem wt_changed (d : Doing) : Wt 0 d (Ql46.changed d) := by
  unfold Ql46.changed
  dsimp only
  split
  · refine wt_b (b := d.1) d.2 ?_
    unfold owed phi
    dsimp only
    rw [if_pos rfl]
    omega
  · split
    · rename_i h
      have := wt_ask ({ d.1 with found := true, asking := some 0 }, d.2)
      unfold Wt W at this ⊢
      unfold owed at this ⊢
      unfold phi at this ⊢
      dsimp only at this ⊢
      rw [if_pos rfl] at this
      rw [if_neg (c := d.1.found = true) (by rw [h]; exact Bool.false_ne_true)]
      omega
    · exact Wt.refl d
theorem wt_forward (b : Bridge) (k : Nat) (s : Ql46.Sent) : Wt 0 (b, s) (Ql46.forward b k, s) := by
  unfold Ql46.forward
  dsimp only
  split
  · exact wt_set (b, s) k _ fun h => h
  · exact Wt.refl _
theorem wt_block (k : Nat) (d : Doing) : Wt 0 d (Ql46.block k d) := by
  unfold Ql46.block Ql46.Doing.on
  dsimp only
  split
  · exact Wt.refl d
  · split
    · exact (wt_changed d).trans (wt_set (Ql46.changed d) k { (Ql46.changed d).1.port k with state := 1, wait := none } fun h => h)
    · exact wt_set d k _ fun h => h
theorem wt_stateTurn (k : Nat) (d : Doing) : Wt 0 d (stateTurn k d) := by
  unfold stateTurn
  split
  · exact Wt.refl d
  · split
    · exact (wt_set d k { d.1.port k with pending := false, known := false } fun h => h).trans (wt_forward _ k _)
    · split
      · exact (wt_set d k { d.1.port k with age := none } fun h => h).trans (wt_forward _ k _)
      · exact (wt_set d k { d.1.port k with pending := false, known := false } fun h => h).trans (wt_block k _)
theorem wt_states (d : Doing) : Wt 0 d (Ql46.states d) := by
  rw [states_itr]
  have := Wt.itr wt_stateTurn d.1.ports.length d
  rw [Nat.mul_zero] at this; exact this
theorem wt_lead (b : Bridge) (k : Nat) (s : Ql46.Sent) : Wt 0 (b, s) (Ql46.lead b k, s) := wt_set (b, s) k { b.port k with root := b.root, cost := b.cost, bridge := b.id, port := Ql46.portId k } fun h => h
theorem wt_update (b : Bridge) (s : Ql46.Sent) : Wt 0 (b, s) (Ql46.update b, s) := by
  unfold Ql46.update
  have h1 : Wt 0 (b, s) (Ql46.choose b, s) := wt_own s (choose_ports b) (by unfold Ql46.choose; dsimp only; split <;> rfl)
  refine Wt.trans (c := 0) (c' := 0) h1 ?_
  rw [chooseLed_itr]
  have := Wt.itr (f := leadTurn) (c := 0) (fun k d => by
    unfold leadTurn
    split
    · exact wt_lead d.1 k d.2
    · exact Wt.refl d) (Ql46.choose b).ports.length (Ql46.choose b, s)
  rw [Nat.mul_zero] at this; exact this
theorem wt_stopped (was : Bool) (d : Doing) : Wt 23 d (stopped was d) := by
  unfold stopped
  dsimp only
  split
  · split
    · exact (wt_own (b := d.1) (b' := { d.1 with telling := none, changing := none, asking := some 0 }) d.2 rfl rfl).trans (wt_ask _)
    · exact (wt_own (b := d.1) (b' := { d.1 with telling := none }) d.2 rfl rfl).mono (by decide)
  · exact (Wt.refl d).mono (by decide)
theorem wt_becameRoot (was : Bool) (d : Doing) : Wt 0 d (Ql46.becameRoot was d) := by
  unfold Ql46.becameRoot Ql46.Doing.on
  dsimp only
  split
  · have h1 := wt_own (b := d.1) (b' := { d.1 with maxAge := Ql46.MAXAGE, hello := Ql46.HELLO, delay := Ql46.DELAY, asking := none }) d.2 rfl rfl
    have h3 := (h1.trans (wt_changed _)).trans (wt_tellAll _)
    exact h3.trans (wt_own (b' := { (Ql46.tellAll (Ql46.changed ({ d.1 with maxAge := Ql46.MAXAGE, hello := Ql46.HELLO, delay := Ql46.DELAY, asking := none }, d.2))).1 with telling := some 0 }) _ rfl rfl)
  · exact Wt.refl d
theorem wt_learnt (k : Nat) (s : Ql46.Says) (d : Doing) : Wt 0 d (learnt k s d) := by
  have h1 := wt_set d k { d.1.port k with root := s.root, cost := s.cost, bridge := s.bridge, port := s.port, age := some s.age } fun h => h
  exact (h1.trans (wt_update (d.1.set k { d.1.port k with root := s.root, cost := s.cost, bridge := s.bridge, port := s.port, age := some s.age }) d.2)).trans (wt_states _)
theorem wt_followed (s : Ql46.Says) (d : Doing) : Wt 23 d (followed s d) := by
  unfold followed
  dsimp only
  have h2 := (wt_own (b := d.1) (b' := { d.1 with maxAge := s.maxAge, hello := s.hello, delay := s.delay, change := s.change }) d.2 rfl rfl).trans (wt_tellAll _)
  split
  · exact (h2.trans (wt_own23 (b' := { (Ql46.tellAll ({ d.1 with maxAge := s.maxAge, hello := s.hello, delay := s.delay, change := s.change }, d.2)).1 with found := false, asking := none }) _ rfl)).mono (by decide)
  · exact h2.mono (by decide)
theorem wt_hear (k : Nat) (s : Ql46.Says) (d : Doing) (hn : (d.1.port k).state ≠ 0) : Wt 46 d (Ql46.hear k s d) := by
  rw [hear_eq k s d hn]
  split
  · unfold hearB
    dsimp only
    have h1 := (wt_learnt k s d).trans (wt_stopped d.1.isRoot _)
    split
    · exact (h1.trans (wt_followed s _)).mono (by decide)
    · exact h1.mono (by decide)
  · split
    · exact (wt_tell k d (in_of_on hn)).mono (by decide)
    · exact (Wt.refl d).mono (Nat.zero_le _)
theorem wt_hearChange (k : Nat) (d : Doing) : Wt 0 d (Ql46.hearChange k d) := by
  unfold Ql46.hearChange Ql46.Doing.on
  dsimp only
  split
  · rename_i h
    have h2 := (wt_changed d).trans (wt_set _ k { (Ql46.changed d).1.port k with known := true } fun h => h)
    refine h2.trans (wt_tell k _ ?_)
    rw [set_len, (ok_changed d).len]
    exact in_of_on h.1
  · exact Wt.refl d
theorem wt_heard (k : Nat) (m : List Nat) (d : Doing) (hn : (d.1.port k).state ≠ 0) : Wt 46 d (heard k m d) := by
  unfold heard
  split
  · exact wt_hear k _ d hn
  · exact (wt_hearChange k d).mono (by omega)
  · exact (Wt.refl d).mono (Nat.zero_le _)
theorem W0 {b : Bridge} (g : b.ports.length ≤ 16) : W (b, []) ≤ 887 := by
  have := phi_le b
  unfold W owed
  rw [show (sentN []).length = 0 from rfl]
  dsimp only
  split <;> omega
end Tb
namespace Tb
open Ql46 (Doing Bridge)
def ageTurn (k : Nat) (d : Doing) : Doing :=
  let p := d.1.port k
  let t := Ql46.runs p.age d.1.maxAge
  let e : Doing := (d.1.set k { p with age := t.1 }, d.2)
  if t.2 = true then Ql46.becameRoot e.1.isRoot (Ql46.states (Ql46.update (Ql46.lead e.1 k), e.2)) else e
def waitTurn (k : Nat) (d : Doing) : Doing :=
  let p := d.1.port k
  let t := Ql46.runs p.wait d.1.delay
  if t.2 = true then (if p.state = 2 then (d.1.set k { p with state := 3, wait := some 0 }, d.2)
    else if p.state = 3 then (let e : Doing := (d.1.set k { p with state := 4, wait := none }, d.2); if Ql46.someLead e.1 = true then Ql46.changed e else e)
    else (d.1.set k { p with wait := none }, d.2))
  else (d.1.set k { p with wait := t.1 }, d.2)
def holdTurn (k : Nat) (d : Doing) : Doing :=
  let p := d.1.port k
  let t := Ql46.runs p.hold 1
  let e : Doing := (d.1.set k { p with hold := t.1 }, d.2)
  if t.2 = true ∧ p.pending = true then Ql46.tell k e else e
def tellStep (d : Doing) : Doing :=
  let t := Ql46.runs d.1.telling d.1.hello
  let e : Doing := ({ d.1 with telling := t.1 }, d.2)
  if t.2 = true then ({ (Ql46.tellAll e).1 with telling := some 0 }, (Ql46.tellAll e).2) else e
def askStep (d : Doing) : Doing :=
  let t := Ql46.runs d.1.asking Ql46.HELLO
  if t.2 = true then Ql46.ask ({ d.1 with asking := some 0 }, d.2) else ({ d.1 with asking := t.1 }, d.2)
def changeStep (d : Doing) : Doing :=
  let t := Ql46.runs d.1.changing (Ql46.MAXAGE + Ql46.DELAY)
  if t.2 = true then ({ d.1 with changing := t.1, found := false, change := false }, d.2) else ({ d.1 with changing := t.1 }, d.2)
def tabStep (d : Doing) : Doing :=
  ({ d.1 with table := (d.1.table.map fun x => (x.1, x.2.1, x.2.2 + 1)).filter fun x => decide (x.2.2 < if d.1.change = true then d.1.delay else Ql46.AGING) }, d.2)
def allPorts (f : Nat → Doing → Doing) (d : Doing) : Doing := itr f d.1.ports.length d
theorem allPorts_eq (f : Nat → Doing → Doing) (d : Doing) : d.1.all.foldl (fun d k => f k d) d = allPorts f d := fold_itr f d.1.ports.length d
theorem second_eq (d : Doing) : Ql46.second d = tabStep (allPorts holdTurn (allPorts waitTurn (allPorts ageTurn (changeStep (askStep (tellStep d)))))) := by
  unfold Ql46.second
  extract_lets t1 d1 d2 t2 d3 d4 t3 d5 d6 d7 d8 d9 most
  have e1 : d2 = tellStep d := rfl
  have e2 : d4 = askStep d2 := rfl
  have e3 : d6 = changeStep d4 := rfl
  have e4 : d7 = allPorts ageTurn d6 := allPorts_eq ageTurn d6
  have e5 : d8 = allPorts waitTurn d7 := allPorts_eq waitTurn d7
  have e6 : d9 = allPorts holdTurn d8 := allPorts_eq holdTurn d8
  rw [← e1, ← e2, ← e3, ← e4, ← e5, ← e6]
  rfl
theorem OffP.age {p : Ql46.Port} (h : OffP p) (m : Nat) : OffP { p with age := (Ql46.runs p.age m).1 } := fun e => by
  obtain ⟨h1, h2⟩ := h e
  exact ⟨by dsimp only; rw [h1]; rfl, h2⟩
theorem OffP.wait {p : Ql46.Port} (h : OffP p) (m : Nat) : OffP { p with wait := (Ql46.runs p.wait m).1 } := fun e => by
  obtain ⟨h1, h2, h3⟩ := h e
  exact ⟨h1, by dsimp only; rw [h2]; rfl, h3⟩
theorem OffP.hold {p : Ql46.Port} (h : OffP p) (m : Nat) : OffP { p with hold := (Ql46.runs p.hold m).1 } := fun e => by
  obtain ⟨h1, h2, h3, h4⟩ := h e
  exact ⟨h1, h2, by dsimp only; rw [h3]; rfl, h4⟩
theorem OffP.nowait {p : Ql46.Port} (h : OffP p) : OffP { p with wait := none } := fun e => by
  obtain ⟨h1, h2, h3⟩ := h e
  exact ⟨h1, rfl, h3⟩
theorem ok_ageTurn (k : Nat) (d : Doing) (g : Good d.1) : Ok 33 d (ageTurn k d) := by
  unfold ageTurn
  dsimp only
  have h1 := ok_set d k { d.1.port k with age := (Ql46.runs (d.1.port k).age d.1.maxAge).1 } (fun g => g.st k) fun g => (g.off k).age _
  revert h1
  generalize (d.1.set k { d.1.port k with age := (Ql46.runs (d.1.port k).age d.1.maxAge).1 }) = b1
  intro h1
  split
  · have h2 := (h1.trans (ok_lead b1 k d.2)).trans (ok_update (Ql46.lead b1 k) d.2)
    have h3 := h2.trans (ns_states _).ok
    have h4 := h3.trans (ns_becameRoot b1.isRoot _).ok
    refine h4.mono ?_
    have e2 := h2.len
    have e3 := h3.len
    have := g.few
    dsimp only at e2 e3 ⊢
    omega
  · exact h1.mono (by decide)
theorem ok_waitTurn (k : Nat) (d : Doing) : Ok 1 d (waitTurn k d) := by
  unfold waitTurn
  dsimp only
  split
  · split
    · exact (ok_set d k { d.1.port k with state := 3, wait := some 0 } (fun _ => sz) fun _ => OffP.on (Nat.succ_ne_zero _)).mono (by decide)
    · split
      · have h := ok_set d k { d.1.port k with state := 4, wait := none } (fun _ => sz) fun _ => OffP.on (Nat.succ_ne_zero _)
        split
        · exact (h.trans (ok_changed _)).mono (by decide)
        · exact h.mono (by decide)
      · exact (ok_set d k { d.1.port k with wait := none } (fun g => g.st k) fun g => (g.off k).nowait).mono (by decide)
  · exact (ok_set d k { d.1.port k with wait := (Ql46.runs (d.1.port k).wait d.1.delay).1 } (fun g => g.st k) (fun g => (g.off k).wait _) fun g => (g.wt k).elim (fun z => .inl (by show (Ql46.runs (d.1.port k).wait d.1.delay).1 = none; rw [z]; rfl)) .inr).mono (by decide)
theorem ok_holdTurn (k : Nat) (d : Doing) (g : Good d.1) : Ok 1 d (holdTurn k d) := by
  unfold holdTurn
  dsimp only
  have h1 := ok_set d k { d.1.port k with hold := (Ql46.runs (d.1.port k).hold 1).1 } (fun g => g.st k) fun g => (g.off k).hold _
  split
  · rename_i h
    have hs : (d.1.port k).state ≠ 0 := fun z => by
      have e := (g.off k z).2.2.1
      rw [e] at h
      exact absurd h.1 (by decide)
    refine (h1.trans (ns_tell' k _ fun _ => ?_).ok).mono (by decide)
    rcases port_of_set d.1 k k { d.1.port k with hold := (Ql46.runs (d.1.port k).hold 1).1 } with z | z
    · rw [z]; exact hs
    · rw [z]; exact hs
  · exact h1.mono (by decide)
theorem ns_tellStep (d : Doing) : Ns d.1.ports.length d (tellStep d) := by
  unfold tellStep
  dsimp only
  have h1 := ns_own (b := d.1) (b' := { d.1 with telling := (Ql46.runs d.1.telling d.1.hello).1 }) d.2 rfl rfl rfl rfl rfl
  split
  · exact ((h1.trans (ns_tellAll _)).trans (ns_own (b' := { (Ql46.tellAll ({ d.1 with telling := (Ql46.runs d.1.telling d.1.hello).1 }, d.2)).1 with telling := some 0 }) _ rfl rfl rfl rfl rfl)).mono (by dsimp only; omega)
  · exact h1.mono (Nat.zero_le _)
theorem ns_askStep (d : Doing) : Ns 1 d (askStep d) := by
  unfold askStep
  dsimp only
  split
  · exact ((ns_own (b := d.1) (b' := { d.1 with asking := some 0 }) d.2 rfl rfl rfl rfl rfl).trans (ns_ask _)).mono (by decide)
  · exact Ns.mono (c := 0) (c' := 1) (ns_own (b := d.1) d.2 rfl rfl rfl rfl rfl) (by decide)
theorem ns_changeStep (d : Doing) : Ns 0 d (changeStep d) := by
  unfold changeStep
  dsimp only
  split
  · exact ns_own (b := d.1) d.2 rfl rfl rfl rfl rfl
  · exact ns_own (b := d.1) d.2 rfl rfl rfl rfl rfl
def second5 (d : Doing) : Doing := allPorts holdTurn (allPorts waitTurn (allPorts ageTurn (changeStep (askStep (tellStep d)))))
theorem ok_second5 (d : Doing) (g : Good d.1) : Ok 577 d (second5 d) := by
  have h1 := ((ns_tellStep d).ok.trans (ns_askStep _).ok).trans (ns_changeStep _).ok
  have h2 := h1.trans (Ok.itrG ok_ageTurn (changeStep (askStep (tellStep d))).1.ports.length _ (h1.good g))
  have h3 := h2.trans (Ok.itr ok_waitTurn (allPorts ageTurn (changeStep (askStep (tellStep d)))).1.ports.length _)
  have h4 := h3.trans (Ok.itrG ok_holdTurn (allPorts waitTurn (allPorts ageTurn (changeStep (askStep (tellStep d))))).1.ports.length _ (h3.good g))
  refine h4.mono ?_
  have e1 := h1.len
  have e2 : (allPorts ageTurn (changeStep (askStep (tellStep d)))).1.ports.length = d.1.ports.length := h2.len
  have e3 : (allPorts waitTurn (allPorts ageTurn (changeStep (askStep (tellStep d))))).1.ports.length = d.1.ports.length := h3.len
  have := g.few
  rw [e1, e2, e3]
  omega
theorem wt_ageTurn (k : Nat) (d : Doing) : Wt 0 d (ageTurn k d) := by
  unfold ageTurn
  dsimp only
  have h1 := wt_set d k { d.1.port k with age := (Ql46.runs (d.1.port k).age d.1.maxAge).1 } fun h => h
  revert h1
  generalize (d.1.set k { d.1.port k with age := (Ql46.runs (d.1.port k).age d.1.maxAge).1 }) = b1
  intro h1
  split
  · exact (((h1.trans (wt_lead b1 k d.2)).trans (wt_update (Ql46.lead b1 k) d.2)).trans (wt_states _)).trans (wt_becameRoot b1.isRoot _)
  · exact h1
theorem wt_waitTurn (k : Nat) (d : Doing) : Wt 0 d (waitTurn k d) := by
  unfold waitTurn
  dsimp only
  split
  · split
    · exact wt_set d k { d.1.port k with state := 3, wait := some 0 } fun h => h
    · split
      · have h := wt_set d k { d.1.port k with state := 4, wait := none } fun h => h
        split
        · exact h.trans (wt_changed _)
        · exact h
      · exact wt_set d k { d.1.port k with wait := none } fun h => h
  · exact wt_set d k { d.1.port k with wait := (Ql46.runs (d.1.port k).wait d.1.delay).1 } fun h => h
theorem wt_holdTurn (k : Nat) (d : Doing) : Wt 54 d (holdTurn k d) := by
  unfold holdTurn
  dsimp only
  have h1 := wt_set1 d k { d.1.port k with hold := (Ql46.runs (d.1.port k).hold 1).1 }
  split
  · rename_i h
    refine (h1.trans (wt_tell k _ ?_)).mono (by decide)
    rw [set_len]
    refine Classical.byContradiction fun z => ?_
    rw [port_out z] at h
    exact absurd h.1 (by decide)
  · exact h1
theorem wt_second5 (d : Doing) : Wt (46 + d.1.ports.length * 54) d (second5 d) ∨ ¬ Good d.1 := by
  by_cases g : Good d.1
  · left
    have w1 : Wt 0 d (tellStep d) := by
      unfold tellStep
      dsimp only
      have h1 := wt_own (b := d.1) (b' := { d.1 with telling := (Ql46.runs d.1.telling d.1.hello).1 }) d.2 rfl rfl
      split
      · exact (h1.trans (wt_tellAll _)).trans (wt_own (b' := { (Ql46.tellAll ({ d.1 with telling := (Ql46.runs d.1.telling d.1.hello).1 }, d.2)).1 with telling := some 0 }) _ rfl rfl)
      · exact h1
    have w2 : ∀ d, Wt 23 d (askStep d) := fun d => by
      unfold askStep
      dsimp only
      split
      · exact (wt_own (b := d.1) (b' := { d.1 with asking := some 0 }) d.2 rfl rfl).trans (wt_ask _)
      · exact (wt_own (b := d.1) d.2 rfl rfl).mono (by decide)
    have w3 : ∀ d, Wt 23 d (changeStep d) := fun d => by
      unfold changeStep
      dsimp only
      split
      · exact wt_own23 (b := d.1) d.2 rfl
      · exact (wt_own (b := d.1) d.2 rfl rfl).mono (by decide)
    have h1 := (w1.trans (w2 _)).trans (w3 _)
    have h2 := h1.trans (Wt.itr wt_ageTurn (changeStep (askStep (tellStep d))).1.ports.length _)
    have h3 := h2.trans (Wt.itr wt_waitTurn (allPorts ageTurn (changeStep (askStep (tellStep d)))).1.ports.length _)
    have h4 := h3.trans (Wt.itr wt_holdTurn (allPorts waitTurn (allPorts ageTurn (changeStep (askStep (tellStep d))))).1.ports.length _)
    refine h4.mono ?_
    have k1 := ((ns_tellStep d).ok.trans (ns_askStep _).ok).trans (ns_changeStep _).ok
    have k2 := k1.trans (Ok.itrG ok_ageTurn (changeStep (askStep (tellStep d))).1.ports.length _ (k1.good g))
    have k3 := k2.trans (Ok.itr ok_waitTurn (allPorts ageTurn (changeStep (askStep (tellStep d)))).1.ports.length _)
    have e3 : (allPorts waitTurn (allPorts ageTurn (changeStep (askStep (tellStep d))))).1.ports.length = d.1.ports.length := k3.len
    rw [e3]
    omega
  · exact .inr g
end Tb
namespace Tb
open Ql46 (Doing Bridge)
structure Inv (b : Bridge) : Prop where
  good : Good b
  tab : TabOk b
theorem TabOk.sub {b b' : Bridge} (h : TabOk b) (p : Nat × Nat × Nat → Bool) (e : b'.table = b.table.filter p) : TabOk b' := by
  have sl : List.Sublist (b.table.filter p) b.table := List.filter_sublist
  refine ⟨?_, ?_, ?_, ?_⟩ <;> rw [e]
  · exact (sl.map (·.1)).nodup h.nd
  · exact Nat.le_trans sl.length_le h.most
  · exact fun x m => h.pos x (sl.subset m)
  · exact fun x m => h.grp x (sl.subset m)
theorem Inv.of {b b' : Bridge} (h : Inv b) {c : Nat} {s s' : Ql46.Sent} (ok : Ok c (b, s) (b', s')) : Inv b' := ⟨ok.good h.good, h.tab.of ok.tab⟩
theorem port_off (id n k : Nat) : (Ql46.begin_ id n).port k = Ql46.off := by
  unfold Ql46.begin_ Ql46.Bridge.port
  dsimp only
  rw [List.getD_eq_getElem?_getD, List.getElem?_replicate]
  split <;> rfl
theorem inv_begin (id n : Nat) (h : n ≤ 16) : Inv (Ql46.begin_ id n) := by
  refine ⟨⟨fun z => ?_, fun k => ?_, ?_, fun k => ?_, fun k => ?_⟩, ⟨?_, ?_, ?_, ?_⟩⟩
  · unfold Ql46.begin_ Ql46.Bridge.isRoot at z
    dsimp only at z
    rw [beq_self_eq_true] at z
    cases z
  · rw [port_off]; decide
  · unfold Ql46.begin_; dsimp only; rw [List.length_replicate]; exact h
  · rw [port_off]; exact fun _ => ⟨rfl, rfl, rfl, rfl, rfl⟩
  · rw [port_off]; exact .inl rfl
  · exact List.nodup_nil
  · exact Nat.zero_le _
  · intro x m; cases m
  · intro x m; cases m
def fl : Ql46.Call → Nat
  | .frame _ f _ => f.length
  | _ => 0
structure Fine (b : Bridge) (n : Nat) (d : Doing) : Prop where
  inv : Inv d.1
  most : (sentN d.2).length ≤ 1900 + 16 * n
theorem Fine.w {b : Bridge} (h : Inv b) {d : Doing} {c : Nat} (hi : Inv d.1) (w : Wt c (b, []) d) (hc : c ≤ 1000) (n : Nat) : Fine b n d := by
  refine ⟨hi, ?_⟩
  have h1 := W0 h.good.few
  unfold Wt at w
  unfold W at w h1
  omega
theorem fine_on {b : Bridge} (h : Inv b) (k c : Nat) : Fine b 0 (Ql46.on_ k c (b, [])) := by
  unfold Ql46.on_ Ql46.Doing.on
  dsimp only
  split
  · exact .w (c := 0) h h (Wt.refl _) (by decide) 0
  · have o1 := ok_set (b, []) k { Ql46.off with state := 1, pathCost := c } (fun _ => sz) fun _ => OffP.on (Nat.succ_ne_zero _)
    have w1 := wt_set1 (b, []) k { Ql46.off with state := 1, pathCost := c }
    have o2 := (o1.trans (ok_lead _ k [])).trans (ok_states _)
    have w2 := (w1.trans (wt_lead _ k [])).trans (wt_states _)
    exact .w h (h.of o2) w2 (by decide) 0
theorem fine_off {b : Bridge} (h : Inv b) (k : Nat) : Fine b 0 (Ql46.off_ k (b, [])) := by
  unfold Ql46.off_ Ql46.Doing.on
  dsimp only
  split
  · exact .w (c := 0) h h (Wt.refl _) (by decide) 0
  · have o1 := (ok_set (b, []) k { Ql46.off with pathCost := (b.port k).pathCost } (fun _ => Nat.zero_le _) fun _ _ => ⟨rfl, rfl, rfl, rfl, rfl⟩).trans (ok_lead _ k [])
    have w1 := (wt_set1 (b, []) k { Ql46.off with pathCost := (b.port k).pathCost }).trans (wt_lead _ k [])
    have g1 := o1.good h.good
    have i1 : Inv { Ql46.lead (b.set k { Ql46.off with pathCost := (b.port k).pathCost }) k with table := b.table.filter fun x => x.2.1 != k } := ⟨g1.of rfl rfl rfl rfl, h.tab.sub _ rfl⟩
    have w2 := w1.trans (wt_own (b' := { Ql46.lead (b.set k { Ql46.off with pathCost := (b.port k).pathCost }) k with table := b.table.filter fun x => x.2.1 != k }) [] rfl rfl)
    revert i1 w2
    generalize ({ Ql46.lead (b.set k { Ql46.off with pathCost := (b.port k).pathCost }) k with table := b.table.filter fun x => x.2.1 != k } : Bridge) = b1
    intro i1 w2
    have o3 := ((ok_update b1 []).trans (ok_states _)).trans (ns_becameRoot b.isRoot _).ok
    have w3 := ((w2.trans (wt_update b1 [])).trans (wt_states _)).trans (wt_becameRoot b.isRoot _)
    exact .w h (i1.of o3) w3 (by decide) 0
theorem sentN_map (f : List Nat) : ∀ js : List Nat, (sentN (js.map fun j => (j, f))).length = js.length * (2 + f.length)
  | [] => by rw [List.length_nil, Nat.zero_mul]; rfl
  | j :: js => by
    have := sentN_map f js
    unfold sentN at this ⊢
    rw [List.map_cons, List.flatMap_cons, List.length_append, this, List.length_cons, List.length_cons, List.length_cons, Nat.succ_mul]
    dsimp only
    omega
theorem all_len (b : Bridge) : b.all.length = b.ports.length := by unfold Ql46.Bridge.all; rw [List.length_map, List.length_range]
theorem pass_b (k to : Nat) (f : List Nat) (d : Doing) : (passS k to f d).1 = d.1 := by
  unfold passS
  split
  · split <;> rfl
  · rfl
theorem pass_len {k to : Nat} {f : List Nat} {b : Bridge} (g : Good b) : (sentN (passS k to f (b, [])).2).length ≤ 32 + 16 * f.length := by
  unfold passS
  split
  · split
    · exact Nat.zero_le _
    · have := sentN_map f [(‹Nat × Nat × Nat› : Nat × Nat × Nat).2.1]
      show (sentN ([] ++ [(_, f)])).length ≤ _
      rw [sentN_snoc]
      show 0 + _ ≤ _
      omega
  · show (sentN ([] ++ _)).length ≤ _
    rw [List.nil_append, sentN_map]
    have h1 : (b.all.filter fun j => j != k && (b.port j).state == 4).length ≤ 16 := Nat.le_trans (List.length_filter_le _ _) (by rw [all_len]; exact g.few)
    have h2 := Nat.mul_le_mul_right (2 + f.length) h1
    dsimp only
    omega
theorem inv_learn {b : Bridge} (h : Inv b) {k : Nat} (hk : 1 ≤ k) (a : Nat) : Inv (Ql46.learn b k a) := ⟨by
  unfold Ql46.learn
  split
  · exact h.good
  · exact h.good.of rfl rfl rfl rfl, tabok_learn h.tab hk a⟩
theorem fine_frame {b : Bridge} (h : Inv b) {k : Nat} (hk : 1 ≤ k) (f : List Nat) : Fine b f.length (Ql46.frame k f (b, [])) := by
  rw [frame_eq]
  split
  · exact .w (c := 0) h h (Wt.refl _) (by decide) _
  · rename_i hn
    have hs : (b.port k).state ≠ 0 := fun z => hn (.inl z)
    unfold frameS
    split
    · exact .w h (h.of (ns_heard k (bodyOf f) (b, []) hs).ok) (wt_heard k (bodyOf f) (b, []) hs) (by decide) _
    · unfold otherS
      dsimp only
      have key : ∀ b1, Inv b1 → Fine b f.length (if (b.port k).state ≠ 4 ∨ (Ql46.GROUP < Ql46.field f 0 6 ∧ Ql46.field f 0 6 < Ql46.GROUP + 16) then (b1, []) else passS k (Ql46.field f 0 6) f (b1, [])) := fun b1 i1 => by
        split
        · exact ⟨i1, Nat.zero_le _⟩
        · refine ⟨by rw [pass_b]; exact i1, Nat.le_trans (pass_len i1.good) (by omega)⟩
      by_cases h3 : 3 ≤ (b.port k).state
      · rw [if_pos h3]
        exact key _ (inv_learn h hk _)
      · rw [if_neg h3]
        exact key _ h
theorem tabok_aged {b : Bridge} (h : TabOk b) (p : Nat × Nat × Nat → Bool) : TabOk { b with table := (b.table.map fun x => (x.1, x.2.1, x.2.2 + 1)).filter p } := by
  have h1 : TabOk { b with table := b.table.map fun x => (x.1, x.2.1, x.2.2 + 1) } := by
    refine ⟨?_, ?_, ?_, ?_⟩
    · dsimp only
      rw [List.map_map]
      exact h.nd
    · dsimp only
      rw [List.length_map]; exact h.most
    · intro x m
      obtain ⟨y, hy, rfl⟩ := List.mem_map.mp m
      exact h.pos y hy
    · intro x m
      obtain ⟨y, hy, rfl⟩ := List.mem_map.mp m
      exact h.grp y hy
  exact h1.sub p rfl
theorem fine_second {b : Bridge} (h : Inv b) : Fine b 0 (Ql46.second (b, [])) := by
  rw [second_eq]
  show Fine b 0 (tabStep (second5 (b, [])))
  have ok := ok_second5 (b, []) h.good
  have w := (wt_second5 (b, [])).resolve_right (fun z => z h.good)
  have w := w.mono (c' := 46 + 16 * 54) (by have := h.good.few; dsimp only; omega)
  revert ok w
  generalize second5 (b, []) = d
  intro ok w
  have i1 : Inv d.1 := h.of (s := []) (s' := d.2) ok
  have f1 := Fine.w h (d := d) i1 w (by decide) 0
  unfold tabStep
  exact ⟨⟨i1.good.of rfl rfl rfl rfl, tabok_aged i1.tab _⟩, f1.most⟩
theorem fits_of {b : Bridge} {n : Nat} {d : Doing} (f : Fine b n d) (h : n ≤ 16000) : Fits d.2 := by
  have := f.most
  unfold Fits
  omega
theorem spec_fine {b : Bridge} (h : Inv b) (c : Ql46.Call) : Inv (Ql46.spec b c).1 ∧ (ansI (Ql46.spec b c).2).length ≤ 2000 + 16 * fl c := by
  have no : ∀ (z : Int) (n : Nat), (ansI (Ql46.only z)).length ≤ 2000 + 16 * n := fun z n => by
    show 1 ≤ _
    omega
  have dn : ∀ {d : Doing} {n : Nat}, Fine b n d → Inv (Ql46.done d).1 ∧ (ansI (Ql46.done d).2).length ≤ 2000 + 16 * n := fun {d n} f => by
    refine ⟨f.inv, ?_⟩
    have h1 := congrArg List.length (ans_done d)
    have := f.most
    unfold bts at h1
    rw [List.length_map, List.length_map, List.length_cons] at h1
    omega
  have il : ∀ l : List Nat, (Ql46Neutral.ints l).length = l.length := fun l => by unfold Ql46Neutral.ints; rw [List.length_map]
  cases c with
  | begin_ id n =>
    unfold Ql46.spec
    dsimp only
    split
    · exact ⟨h, no _ _⟩
    · rename_i hn
      exact ⟨inv_begin _ n (by unfold Ql46.PORTS at hn; omega), no _ _⟩
  | on k c =>
    unfold Ql46.spec
    dsimp only
    split
    · exact ⟨h, no _ _⟩
    · exact dn (fine_on h k c)
  | off k =>
    unfold Ql46.spec
    dsimp only
    split
    · exact ⟨h, no _ _⟩
    · exact dn (fine_off h k)
  | frame k f n =>
    unfold Ql46.spec
    dsimp only
    split
    · exact ⟨h, no _ _⟩
    · exact dn (fine_frame h (by omega) f)
  | second => exact dn (fine_second h)
  | port k =>
    unfold Ql46.spec
    dsimp only
    split
    · exact ⟨h, no _ _⟩
    · refine ⟨h, ?_⟩
      show 1 + 5 ≤ _
      omega
  | root =>
    refine ⟨h, ?_⟩
    show 1 + 3 ≤ _
    omega
  | find a =>
    unfold Ql46.spec
    dsimp only
    split
    · exact ⟨h, no _ _⟩
    · exact ⟨h, no _ _⟩
end Tb
namespace Tb
open Ql46 (Doing Bridge)
theorem itr_comm {f : Nat → Doing → Doing} {m : Doing → Doing} (h : ∀ k d, f (k + 1) (m d) = m (f (k + 1) d)) : ∀ (n : Nat) (d : Doing), itr f n (m d) = m (itr f n d)
  | 0, _ => rfl
  | n + 1, d => by
    show f (n + 1) (itr f n (m d)) = m (f (n + 1) (itr f n d))
    rw [itr_comm h n d, h]
def tg (x : Option Nat) (d : Doing) : Doing := ({ d.1 with telling := x }, d.2)
theorem tell_tg (x : Option Nat) (k : Nat) (d : Doing) : Ql46.tell k (tg x d) = tg x (Ql46.tell k d) := by
  rw [tell_eq, tell_eq]
  by_cases h1 : (d.1.port k).hold.isSome = true
  · rw [if_pos h1, if_pos (show ((tg x d).1.port k).hold.isSome = true from h1)]
    rfl
  · rw [if_neg h1, if_neg (show ¬ ((tg x d).1.port k).hold.isSome = true from h1)]
    by_cases h2 : toldAge d.1 < d.1.maxAge
    · rw [if_pos h2, if_pos (show toldAge (tg x d).1 < (tg x d).1.maxAge from h2)]
      rfl
    · rw [if_neg h2, if_neg (show ¬ toldAge (tg x d).1 < (tg x d).1.maxAge from h2)]
theorem tellTurn_tg (x : Option Nat) (k : Nat) (d : Doing) : tellTurn k (tg x d) = tg x (tellTurn k d) := by
  unfold tellTurn
  by_cases h : d.1.leads k = true ∧ (d.1.port k).state ≠ 0
  · rw [if_pos h, if_pos (show (tg x d).1.leads k = true ∧ ((tg x d).1.port k).state ≠ 0 from h), tell_tg]
  · rw [if_neg h, if_neg (show ¬ ((tg x d).1.leads k = true ∧ ((tg x d).1.port k).state ≠ 0) from h)]
theorem tellAll_tg (x : Option Nat) (d : Doing) : Ql46.tellAll (tg x d) = tg x (Ql46.tellAll d) := by
  rw [tellAll_itr, tellAll_itr]
  exact itr_comm (fun k d => tellTurn_tg x (k + 1) d) _ d
def z0 (p : Ql46.Port) : Ql46.Port := { p with age := none }
def nb (i : Nat) (b : Bridge) : Bridge := { b with ports := b.ports.modify i z0 }
def na (i : Nat) (d : Doing) : Doing := (nb i d.1, d.2)
def zk (i j : Nat) (p : Ql46.Port) : Ql46.Port := if j = i then z0 p else p
theorem nb_port (i j : Nat) (b : Bridge) : (nb i b).port (j + 1) = zk i j (b.port (j + 1)) := by
  unfold nb Ql46.Bridge.port zk
  dsimp only
  rw [Nat.add_sub_cancel, List.getD_eq_getElem?_getD, List.getD_eq_getElem?_getD, List.getElem?_modify]
  by_cases h : j = i
  · subst h
    rw [if_pos rfl]
    cases b.ports[j]? with
    | none => rfl
    | some p => simp
  · rw [if_neg h]
    cases b.ports[j]? with
    | none => rfl
    | some p => simp [Ne.symm h]
theorem nb_set (i j : Nat) (b : Bridge) (q : Ql46.Port) : (nb i b).set (j + 1) (zk i j q) = nb i (b.set (j + 1) q) := by
  unfold nb Ql46.Bridge.set
  dsimp only
  congr 1
  rw [Nat.add_sub_cancel]
  apply List.ext_getElem?
  intro k
  rw [List.getElem?_set, List.getElem?_modify, List.getElem?_modify, List.getElem?_set, List.length_modify]
  by_cases h1 : j = k
  · subst h1
    rw [if_pos rfl, if_pos rfl]
    by_cases h2 : j < b.ports.length
    · rw [if_pos h2, if_pos h2]
      unfold zk
      by_cases h3 : j = i
      · subst h3; simp
      · simp [h3, Ne.symm h3]
    · rw [if_neg h2, if_neg h2]; rfl
  · rw [if_neg h1, if_neg h1]
theorem nb_self (i : Nat) (b : Bridge) (q : Ql46.Port) : (nb i b).set (i + 1) q = b.set (i + 1) q := by
  unfold nb Ql46.Bridge.set
  dsimp only
  congr 1
  rw [Nat.add_sub_cancel]
  apply List.ext_getElem?
  intro k
  rw [List.getElem?_set, List.getElem?_modify, List.getElem?_set, List.length_modify]
  by_cases h1 : i = k
  · rw [if_pos h1, if_pos h1]
  · rw [if_neg h1, if_neg h1]
    simp [h1]
theorem zk_ne {i j : Nat} (h : j ≠ i) (p : Ql46.Port) : zk i j p = p := if_neg h
theorem zk_f {α : Type} (f : Ql46.Port → α) (h : ∀ p, f (z0 p) = f p) (i j : Nat) (p : Ql46.Port) : f (zk i j p) = f p := by
  unfold zk
  split
  · exact h p
  · rfl
theorem nb_leads (i j : Nat) (b : Bridge) : (nb i b).leads (j + 1) = b.leads (j + 1) := by
  unfold Ql46.Bridge.leads
  rw [nb_port]
  exact zk_f (fun p => p.bridge == b.id && p.port == Ql46.portId (j + 1)) (fun _ => rfl) i j _
theorem nb_may (i j : Nat) (b : Bridge) : mayB (nb i b) (j + 1) = mayB b (j + 1) := by
  unfold mayB
  rw [nb_leads, nb_port]
  exact zk_f (fun p => !b.leads (j + 1) && (p.state != 0 && decide (p.root < b.id))) (fun _ => rfl) i j _
theorem nb_toLead (i j : Nat) (b : Bridge) : toLeadP (nb i b) (j + 1) = toLeadP b (j + 1) := by
  unfold toLeadP
  rw [nb_leads, nb_port]
  exact zk_f (fun p => (b.leads (j + 1) = true ∨ p.root ≠ b.root ∨ b.cost < p.cost ∨ (b.cost = p.cost ∧ (b.id < p.bridge ∨ (b.id = p.bridge ∧ Ql46.portId (j + 1) ≤ p.port))))) (fun _ => rfl) i j _
theorem nb_len (i : Nat) (b : Bridge) : (nb i b).ports.length = b.ports.length := List.length_modify ..
theorem nb_cand (i : Nat) (b : Bridge) (n : Nat) : cand (nb i b) n = cand b n := by
  unfold cand
  congr 1
  funext j
  exact nb_may i j b
theorem nb_ckey (i : Nat) (b : Bridge) (cs : List Nat) : ckey (nb i b) cs = ckey b cs := by
  funext j
  unfold ckey wayKey
  rw [nb_port]
  exact zk_f (fun p => List.map (fun n : Nat => (n : Int)) [p.root, p.cost + p.pathCost, p.bridge, p.port, cs.getD j 0 + 1]) (fun _ => rfl) i _ _
theorem nb_choose (i : Nat) (b : Bridge) : Ql46.choose (nb i b) = nb i (Ql46.choose b) := by
  by_cases h : cand b b.ports.length = []
  · rw [choose_none h, choose_none (by rw [nb_cand, nb_len]; exact h)]
    rfl
  · rw [choose_some h rfl, choose_some (b := nb i b) (by rw [nb_cand, nb_len]; exact h) rfl, nb_len, nb_cand, nb_ckey, nb_port]
    generalize (cand b b.ports.length).getD _ 0 = c
    have e1 : (zk i c (b.port (c + 1))).root = (b.port (c + 1)).root := zk_f (·.root) (fun _ => rfl) i c _
    have e2 : (zk i c (b.port (c + 1))).cost + (zk i c (b.port (c + 1))).pathCost = (b.port (c + 1)).cost + (b.port (c + 1)).pathCost := zk_f (fun p => p.cost + p.pathCost) (fun _ => rfl) i c _
    rw [e1, e2]
    rfl
theorem nb_lead (i j : Nat) (b : Bridge) : Ql46.lead (nb i b) (j + 1) = nb i (Ql46.lead b (j + 1)) := by
  unfold Ql46.lead
  rw [← nb_set, nb_port]
  have e : zk i j { b.port (j + 1) with root := b.root, cost := b.cost, bridge := b.id, port := Ql46.portId (j + 1) } = { zk i j (b.port (j + 1)) with root := b.root, cost := b.cost, bridge := b.id, port := Ql46.portId (j + 1) } := by
    unfold zk
    split <;> rfl
  rw [e]
  rfl
theorem na_leadTurn (i j : Nat) (d : Doing) : leadTurn (j + 1) (na i d) = na i (leadTurn (j + 1) d) := by
  unfold leadTurn
  by_cases h : toLeadP d.1 (j + 1)
  · rw [if_pos h, if_pos (show toLeadP (na i d).1 (j + 1) from (nb_toLead i j d.1).symm ▸ h)]
    exact congrArg (·, d.2) (nb_lead i j d.1)
  · rw [if_neg h, if_neg (show ¬ toLeadP (na i d).1 (j + 1) from fun z => h ((nb_toLead i j d.1) ▸ z))]
theorem na_update (i : Nat) (b : Bridge) (s : Ql46.Sent) : (Ql46.update (nb i b), s) = na i (Ql46.update b, s) := by
  unfold Ql46.update
  rw [nb_choose, chooseLed_itr, nb_len]
  have h := itr_comm (m := na i) (fun k d => na_leadTurn i k d) (Ql46.choose b).ports.length (Ql46.choose b, s)
  rw [← chooseLed_itr] at h
  exact h
theorem na_changed (i : Nat) (d : Doing) : Ql46.changed (na i d) = na i (Ql46.changed d) := by
  unfold Ql46.changed
  dsimp only
  by_cases h1 : d.1.isRoot = true
  · rw [if_pos h1, if_pos (show (na i d).1.isRoot = true from h1)]; rfl
  · rw [if_neg h1, if_neg (show ¬ (na i d).1.isRoot = true from h1)]
    by_cases h2 : d.1.found = false
    · rw [if_pos h2, if_pos (show (na i d).1.found = false from h2)]; rfl
    · rw [if_neg h2, if_neg (show ¬ (na i d).1.found = false from h2)]
theorem nb_set' {i j : Nat} (h : j ≠ i) (b : Bridge) (q : Ql46.Port) : (nb i b).set (j + 1) q = nb i (b.set (j + 1) q) := by
  rw [← nb_set, zk_ne h]
theorem nb_port' {i j : Nat} (h : j ≠ i) (b : Bridge) : (nb i b).port (j + 1) = b.port (j + 1) := by rw [nb_port, zk_ne h]
theorem nb_forward {i j : Nat} (h : j ≠ i) (b : Bridge) : Ql46.forward (nb i b) (j + 1) = nb i (Ql46.forward b (j + 1)) := by
  unfold Ql46.forward
  dsimp only
  rw [nb_port' h]
  split
  · exact nb_set' h _ _
  · rfl
theorem na_block {i j : Nat} (h : j ≠ i) (d : Doing) : Ql46.block (j + 1) (na i d) = na i (Ql46.block (j + 1) d) := by
  unfold Ql46.block Ql46.Doing.on
  dsimp only
  rw [show (na i d).1.port (j + 1) = d.1.port (j + 1) from nb_port' h d.1]
  split
  · rfl
  · split
    · rw [na_changed]
      show ((nb i (Ql46.changed d).1).set (j + 1) { (nb i (Ql46.changed d).1).port (j + 1) with state := 1, wait := none }, _) = _
      rw [nb_port' h, nb_set' h]
      rfl
    · show ((nb i d.1).set (j + 1) { (nb i d.1).port (j + 1) with state := 1, wait := none }, _) = _
      rw [nb_port' h, nb_set' h]
      rfl
theorem na_stateTurn {i j : Nat} (h : j ≠ i) (d : Doing) : stateTurn (j + 1) (na i d) = na i (stateTurn (j + 1) d) := by
  unfold stateTurn
  rw [show (na i d).1.port (j + 1) = d.1.port (j + 1) from nb_port' h d.1, show (na i d).1.leads (j + 1) = d.1.leads (j + 1) from nb_leads i j d.1]
  split
  · rfl
  · split
    · rename_i c
      rw [if_pos (show j + 1 = d.1.rootPort from c)]
      show (Ql46.forward ((nb i d.1).set (j + 1) _) (j + 1), d.2) = _
      rw [nb_set' h, nb_forward h]
      rfl
    · rename_i c
      rw [if_neg (show ¬ j + 1 = d.1.rootPort from c)]
      split
      · show (Ql46.forward ((nb i d.1).set (j + 1) _) (j + 1), d.2) = _
        rw [nb_set' h, nb_forward h]
        rfl
      · rw [← na_block h]
        show Ql46.block (j + 1) ((nb i d.1).set (j + 1) _, d.2) = _
        rw [nb_set' h]
        rfl
theorem na_stateSelf {i : Nat} {d : Doing} (h0 : (d.1.port (i + 1)).state ≠ 0) (h1 : i + 1 ≠ d.1.rootPort) (h2 : d.1.leads (i + 1) = true) : stateTurn (i + 1) (na i d) = stateTurn (i + 1) d := by
  unfold stateTurn
  have e : (na i d).1.port (i + 1) = z0 (d.1.port (i + 1)) := (nb_port i i d.1).trans (if_pos rfl)
  rw [show (na i d).1.leads (i + 1) = d.1.leads (i + 1) from nb_leads i i d.1, e, if_neg h0, if_neg h1, if_pos h2, if_neg (show ¬ (z0 (d.1.port (i + 1))).state = 0 from h0), if_neg (show ¬ i + 1 = (na i d).1.rootPort from h1), if_pos h2]
  show (Ql46.forward ((nb i d.1).set (i + 1) _) (i + 1), d.2) = _
  rw [nb_self]
  rfl
structure Kept (i : Nat) (d d' : Doing) : Prop where
  port : d'.1.port (i + 1) = d.1.port (i + 1)
  root : d'.1.rootPort = d.1.rootPort
  id : d'.1.id = d.1.id
theorem Kept.trans {i : Nat} {d e f : Doing} (a : Kept i d e) (b : Kept i e f) : Kept i d f := ⟨b.port.trans a.port, b.root.trans a.root, b.id.trans a.id⟩
theorem kept_set {i j : Nat} (h : j ≠ i) (d : Doing) (q : Ql46.Port) : Kept i d (d.1.set (j + 1) q, d.2) := ⟨by
  unfold Ql46.Bridge.set Ql46.Bridge.port
  dsimp only
  rw [Nat.add_sub_cancel, Nat.add_sub_cancel, List.getD_eq_getElem?_getD, List.getD_eq_getElem?_getD, List.getElem?_set, if_neg h], rfl, rfl⟩
theorem kept_forward {i j : Nat} (h : j ≠ i) (b : Bridge) (s : Ql46.Sent) : Kept i (b, s) (Ql46.forward b (j + 1), s) := by
  unfold Ql46.forward
  dsimp only
  split
  · exact kept_set h (b, s) _
  · exact ⟨rfl, rfl, rfl⟩
theorem kept_changed (i : Nat) (d : Doing) : Kept i d (Ql46.changed d) := by
  refine ⟨changed_port d _, ?_, ?_⟩ <;>
  · unfold Ql46.changed Ql46.ask
    dsimp only
    split
    · rfl
    · split <;> rfl
theorem kept_block {i j : Nat} (h : j ≠ i) (d : Doing) : Kept i d (Ql46.block (j + 1) d) := by
  unfold Ql46.block Ql46.Doing.on
  dsimp only
  split
  · exact ⟨rfl, rfl, rfl⟩
  · split
    · exact (kept_changed i d).trans (kept_set h _ _)
    · exact kept_set h _ _
theorem kept_stateTurn {i j : Nat} (h : j ≠ i) (d : Doing) : Kept i d (stateTurn (j + 1) d) := by
  unfold stateTurn
  split
  · exact ⟨rfl, rfl, rfl⟩
  · split
    · exact (kept_set h d _).trans (kept_forward h _ _)
    · split
      · exact (kept_set h d _).trans (kept_forward h _ _)
      · exact (kept_set h d _).trans (kept_block h _)
theorem na_states {i : Nat} {d : Doing} (h0 : (d.1.port (i + 1)).state ≠ 0) (h1 : i + 1 ≠ d.1.rootPort) (h2 : d.1.leads (i + 1) = true) (hi : i < d.1.ports.length) : Ql46.states (na i d) = Ql46.states d := by
  have key : ∀ n, (n ≤ i → itr stateTurn n (na i d) = na i (itr stateTurn n d) ∧ Kept i d (itr stateTurn n d)) ∧ (i < n → itr stateTurn n (na i d) = itr stateTurn n d) := by
    intro n
    induction n with
    | zero => exact ⟨fun _ => ⟨rfl, rfl, rfl, rfl⟩, fun z => absurd z (Nat.not_lt_zero _)⟩
    | succ n ih =>
      refine ⟨fun z => ?_, fun z => ?_⟩
      · obtain ⟨e, k⟩ := ih.1 (Nat.le_of_succ_le z)
        have hne : n ≠ i := by omega
        refine ⟨?_, k.trans (kept_stateTurn hne _)⟩
        show stateTurn (n + 1) (itr stateTurn n (na i d)) = na i (stateTurn (n + 1) (itr stateTurn n d))
        rw [e, na_stateTurn hne]
      · show stateTurn (n + 1) (itr stateTurn n (na i d)) = stateTurn (n + 1) (itr stateTurn n d)
        by_cases hn : n = i
        · subst hn
          obtain ⟨e, k⟩ := ih.1 (Nat.le_refl _)
          rw [e]
          refine na_stateSelf (by rw [k.port]; exact h0) (by rw [k.root]; exact h1) ?_
          unfold Ql46.Bridge.leads at h2 ⊢
          rw [k.port, k.id]
          exact h2
        · rw [ih.2 (by omega)]
  rw [states_itr, states_itr, show (na i d).1.ports.length = d.1.ports.length from nb_len i d.1]
  exact (key d.1.ports.length).2 hi
structure Led (i : Nat) (b : Bridge) (s : Nat) : Prop where
  lead : b.leads (i + 1) = true
  st : (b.port (i + 1)).state = s
theorem led_lead {i j s : Nat} {b : Bridge} (hi : i < b.ports.length) (h : Led i b s) : Led i (Ql46.lead b (j + 1)) s := by
  by_cases e : j = i
  · subst e
    have e1 : (Ql46.lead b (j + 1)).port (j + 1) = { b.port (j + 1) with root := b.root, cost := b.cost, bridge := b.id, port := Ql46.portId (j + 1) } := port_set_self hi
    refine ⟨?_, by rw [e1]; exact h.st⟩
    unfold Ql46.Bridge.leads
    rw [e1]
    show (b.id == b.id && Ql46.portId (j + 1) == Ql46.portId (j + 1)) = true
    rw [beq_self_eq_true, beq_self_eq_true]; rfl
  · have k : Kept i (b, []) (Ql46.lead b (j + 1), []) := kept_set e (b, []) _
    refine ⟨?_, by have := k.port; dsimp only at this; rw [this]; exact h.st⟩
    have h2 := h.lead
    unfold Ql46.Bridge.leads at h2 ⊢
    have e1 := k.port
    have e2 := k.id
    dsimp only at e1 e2
    rw [e1, e2]; exact h2
theorem led_itr {i s : Nat} (sn : Ql46.Sent) : ∀ (n : Nat) {b : Bridge}, i < b.ports.length → Led i b s → Led i (itr leadTurn n (b, sn)).1 s ∧ i < (itr leadTurn n (b, sn)).1.ports.length ∧ (itr leadTurn n (b, sn)).1.rootPort = b.rootPort
  | 0, _, hi, h => ⟨h, hi, rfl⟩
  | n + 1, b, hi, h => by
    obtain ⟨h1, h2, h3⟩ := led_itr sn n hi h
    show Led i (leadTurn (n + 1) (itr leadTurn n (b, sn))).1 s ∧ i < (leadTurn (n + 1) (itr leadTurn n (b, sn))).1.ports.length ∧ (leadTurn (n + 1) (itr leadTurn n (b, sn))).1.rootPort = b.rootPort
    unfold leadTurn
    split
    · exact ⟨led_lead h2 h1, by show i < (Ql46.Bridge.set _ _ _).ports.length; rw [set_len]; exact h2, h3⟩
    · exact ⟨h1, h2, h3⟩
theorem choose_id (b : Bridge) : (Ql46.choose b).id = b.id := by
  unfold Ql46.choose
  dsimp only
  split <;> rfl
theorem led_choose {i s : Nat} {b : Bridge} (h : Led i b s) : Led i (Ql46.choose b) s ∧ i + 1 ≠ (Ql46.choose b).rootPort := by
  have ep : ∀ k, (Ql46.choose b).port k = b.port k := fun k => by unfold Ql46.Bridge.port; rw [choose_ports]
  refine ⟨⟨?_, by rw [ep]; exact h.st⟩, ?_⟩
  · have := h.lead
    unfold Ql46.Bridge.leads at this ⊢
    rw [ep, choose_id]; exact this
  · by_cases hc : cand b b.ports.length = []
    · rw [choose_none hc]
      exact Nat.succ_ne_zero _
    · have hl : 0 < (cand b b.ports.length).length := List.length_pos_iff.mpr hc
      have hb := bestIx_le (ckey b (cand b b.ports.length)) ((cand b b.ports.length).length - 1)
      rw [choose_some hc rfl]
      generalize bestIx (ckey b (cand b b.ports.length)) ((cand b b.ports.length).length - 1) = n at *
      have hn : n < (cand b b.ports.length).length := by omega
      have hm : (cand b b.ports.length).getD n 0 ∈ cand b b.ports.length := by
        rw [List.getD_eq_getElem?_getD, List.getElem?_eq_getElem hn]
        exact List.getElem_mem hn
      have hmay := (cand_lt hm).2
      intro e
      dsimp only at e
      rw [← e] at hmay
      unfold mayB at hmay
      rw [h.lead] at hmay
      cases hmay
theorem age_gone {b : Bridge} {i : Nat} (hi : i < b.ports.length) (s : Ql46.Sent) (q : Ql46.Port) (x : Option Nat) (hq : q.state ≠ 0) :
    Ql46.states (Ql46.update (Ql46.lead (b.set (i + 1) { q with age := none }) (i + 1)), s) = Ql46.states (Ql46.update (Ql46.lead (b.set (i + 1) { q with age := x }) (i + 1)), s) := by
  have e1 : Ql46.lead (b.set (i + 1) { q with age := none }) (i + 1) = nb i (Ql46.lead (b.set (i + 1) { q with age := x }) (i + 1)) := by
    rw [← nb_lead, ← nb_set]
    unfold zk
    rw [if_pos rfl, nb_self]
    rfl
  rw [e1, na_update]
  have hl : Led i (Ql46.lead (b.set (i + 1) { q with age := x }) (i + 1)) q.state := by
    rw [lead_set hi]
    refine ⟨?_, by rw [port_set_self hi]⟩
    unfold Ql46.Bridge.leads
    rw [port_set_self hi]
    show (b.id == b.id && Ql46.portId (i + 1) == Ql46.portId (i + 1)) = true
    rw [beq_self_eq_true, beq_self_eq_true]; rfl
  have hlen : i < (Ql46.lead (b.set (i + 1) { q with age := x }) (i + 1)).ports.length := by
    rw [lead_set hi, set_len]; exact hi
  revert hl hlen
  generalize Ql46.lead (b.set (i + 1) { q with age := x }) (i + 1) = b1
  intro hl hlen
  obtain ⟨c1, c2⟩ := led_choose hl
  have hlen2 : i < (Ql46.choose b1).ports.length := by rw [choose_ports]; exact hlen
  have e2 : (Ql46.update b1, s) = itr leadTurn (Ql46.choose b1).ports.length (Ql46.choose b1, s) := chooseLed_itr (Ql46.choose b1) s
  obtain ⟨u1, u2, u3⟩ := led_itr s (Ql46.choose b1).ports.length hlen2 c1
  rw [← e2] at u1 u2 u3
  exact na_states (by rw [u1.st]; exact hq) (by rw [u3]; exact c2) u1.lead u2
def up (o : Option Nat) : Option Nat := o.map (· + 1)
def outB (o : Option Nat) (m : Nat) : Bool := match o with
  | none => false
  | some n => decide (m ≤ n)
theorem runs_eq (o : Option Nat) (m : Nat) : Ql46.runs o m = (if outB (up o) m = true then none else up o, outB (up o) m) := by
  cases o with
  | none => rfl
  | some n =>
    show (if m ≤ n + 1 then (none, true) else (some (n + 1), false)) = _
    by_cases h : m ≤ n + 1
    · have e : outB (up (some n)) m = true := decide_eq_true h
      rw [if_pos h, e, if_pos rfl]
    · have e : outB (up (some n)) m = false := decide_eq_false h
      rw [if_neg h, e, if_neg Bool.false_ne_true]
      rfl
theorem tellStep_run (d : Doing) : tellStep d = if outB (up d.1.telling) d.1.hello = true then ({ (Ql46.tellAll (tg (up d.1.telling) d)).1 with telling := some 0 }, (Ql46.tellAll (tg (up d.1.telling) d)).2) else tg (up d.1.telling) d := by
  unfold tellStep
  rw [runs_eq]
  dsimp only
  by_cases h : outB (up d.1.telling) d.1.hello = true
  · rw [if_pos h, if_pos h, if_pos h, tellAll_tg, show Ql46.tellAll ({ d.1 with telling := none }, d.2) = tg none (Ql46.tellAll d) from tellAll_tg none d]
    rfl
  · rw [if_neg h, if_neg h, if_neg h]
    rfl
theorem askStep_run (d : Doing) : askStep d = if outB (up d.1.asking) 2 = true then Ql46.ask ({ d.1 with asking := some 0 }, d.2) else ({ d.1 with asking := up d.1.asking }, d.2) := by
  unfold askStep
  rw [runs_eq]
  dsimp only
  by_cases h : outB (up d.1.asking) 2 = true
  · rw [if_pos h, if_pos (show outB (up d.1.asking) Ql46.HELLO = true from h)]
  · rw [if_neg h, if_neg (show ¬ outB (up d.1.asking) Ql46.HELLO = true from h), if_neg (show ¬ outB (up d.1.asking) Ql46.HELLO = true from h)]
theorem changeStep_run (d : Doing) : changeStep d = if outB (up d.1.changing) 35 = true then ({ d.1 with changing := none, found := false, change := false }, d.2) else ({ d.1 with changing := up d.1.changing }, d.2) := by
  unfold changeStep
  rw [runs_eq]
  dsimp only
  by_cases h : outB (up d.1.changing) 35 = true
  · rw [if_pos h, if_pos (show outB (up d.1.changing) (Ql46.MAXAGE + Ql46.DELAY) = true from h), if_pos (show outB (up d.1.changing) (Ql46.MAXAGE + Ql46.DELAY) = true from h)]
  · rw [if_neg h, if_neg (show ¬ outB (up d.1.changing) (Ql46.MAXAGE + Ql46.DELAY) = true from h), if_neg (show ¬ outB (up d.1.changing) (Ql46.MAXAGE + Ql46.DELAY) = true from h)]
theorem out_some {o : Option Nat} {m : Nat} (h : outB (up o) m = true) : o ≠ none := fun e => by rw [e] at h; cases h
theorem ageTurn_run {i : Nat} {d : Doing} (g : Good d.1) (hi : i < d.1.ports.length) : ageTurn (i + 1) d = if outB (up (d.1.port (i + 1)).age) d.1.maxAge = true
    then Ql46.becameRoot d.1.isRoot (Ql46.states (Ql46.update (Ql46.lead (d.1.set (i + 1) { d.1.port (i + 1) with age := up (d.1.port (i + 1)).age }) (i + 1)), d.2))
    else (d.1.set (i + 1) { d.1.port (i + 1) with age := up (d.1.port (i + 1)).age }, d.2) := by
  unfold ageTurn
  dsimp only
  rw [runs_eq]
  dsimp only
  by_cases h : outB (up (d.1.port (i + 1)).age) d.1.maxAge = true
  · rw [if_pos h, if_pos h, if_pos h]
    have hs : (d.1.port (i + 1)).state ≠ 0 := fun z => out_some h (g.off (i + 1) z).1
    rw [age_gone hi d.2 (d.1.port (i + 1)) (up (d.1.port (i + 1)).age) hs]
    rfl
  · rw [if_neg h, if_neg h, if_neg h]
theorem waitTurn_run {k : Nat} {d : Doing} (g : Good d.1) : waitTurn k d = if outB (up (d.1.port k).wait) d.1.delay = true
    then (if (d.1.port k).state = 2 then (d.1.set k { d.1.port k with state := 3, wait := some 0 }, d.2) else if Ql46.someLead (d.1.set k { d.1.port k with state := 4, wait := none }) = true then Ql46.changed (d.1.set k { d.1.port k with state := 4, wait := none }, d.2) else (d.1.set k { d.1.port k with state := 4, wait := none }, d.2))
    else (d.1.set k { d.1.port k with wait := up (d.1.port k).wait }, d.2) := by
  unfold waitTurn
  dsimp only
  rw [runs_eq]
  dsimp only
  by_cases h : outB (up (d.1.port k).wait) d.1.delay = true
  · rw [if_pos h, if_pos h]
    by_cases h2 : (d.1.port k).state = 2
    · rw [if_pos h2, if_pos h2]
    · rw [if_neg h2, if_neg h2, if_pos (by
        rcases g.wt k with z | z | z
        · exact absurd z (out_some h)
        · exact absurd z h2
        · exact z)]
  · rw [if_neg h, if_neg h, if_neg h]
theorem holdTurn_run (k : Nat) (d : Doing) : holdTurn k d = if outB (up (d.1.port k).hold) 1 = true
    then (if (d.1.port k).pending = true then Ql46.tell k (d.1.set k { d.1.port k with hold := none }, d.2) else (d.1.set k { d.1.port k with hold := none }, d.2))
    else (d.1.set k { d.1.port k with hold := up (d.1.port k).hold }, d.2) := by
  unfold holdTurn
  dsimp only
  rw [runs_eq]
  dsimp only
  by_cases h : outB (up (d.1.port k).hold) 1 = true
  · rw [if_pos h, if_pos h]
    by_cases h2 : (d.1.port k).pending = true
    · rw [if_pos h2, if_pos ⟨h, h2⟩]
    · rw [if_neg h2, if_neg (fun z => h2 z.2)]
  · rw [if_neg h, if_neg h, if_neg (fun z => h z.1)]
end Tb
local macro_rules | `(tactic| walk_at "ift") => `(tactic| (dsimp only; rw [if_pos rfl]))
local macro_rules | `(tactic| walk_at "iff") => `(tactic| (dsimp only; rw [if_neg Bool.false_ne_true]))
namespace Tb
open PySem PySem.Spec PyProof.Rows L2
section
variable {P : Program} {w : World} {K : PySem.W.Frag} {mg : Str → Option Value} {base : Heap} {t : Adr}
def sp_one_more (K : PySem.W.Frag) (t : Adr) : Sp := sp1 fun x H Q => ∃ o : Option Nat, x = optV o ∧ Q (optV (up o)) H
theorem ok_one_more (T : Txt K mg t) : FnOk P w K mg base CX0 1 t.f_one_more t.fd_one_more ["timer"] (sp_one_more K t) := by
  refine T.F_one_more.okQ sc_one_more sp1_len (fun cdv A outer s H vs Q E hr h => ?_)
  obtain ⟨x0, rfl, h⟩ := h
  obtain ⟨o, rfl, k⟩ := h
  refine ⟨_, (qb_one (qs_ret (q_ifx (qt_cmp op_isN (qv 0) q_non (nomark _)) q_non (q_op op_add (qv 0) q_int)))), ?_⟩
  refine ⟨_, rfl, rfl, _, rfl, ?_⟩
  cases o with
  | none =>
    refine ifD (fun _ => ?_) (fun z => absurd rfl z)
    exact k
  | some n =>
    refine ifD (fun z => nomatch z) (fun _ => ?_)
    exact ⟨_, rfl, _, _, rfl, rfl, k⟩
def sp_is_out (K : PySem.W.Frag) (t : Adr) : Sp := sp2 fun x y H Q => ∃ (o : Option Nat) (m : Nat), x = optV o ∧ y = .int (m : Nat) ∧ Q (.bl (outB o m)) H
theorem ok_is_out (T : Txt K mg t) : FnOk P w K mg base CX0 1 t.f_is_out t.fd_is_out ["timer", "seconds"] (sp_is_out K t) := by
  refine T.F_is_out.okQ sc_is_out sp2_len (fun cdv A outer s H vs Q E hr h => ?_)
  obtain ⟨x0, x1, rfl, h⟩ := h
  obtain ⟨o, m, rfl, rfl, k⟩ := h
  refine ⟨_, (qb_one (qs_ret (q_and (q_cmp op_notN (qv 0) q_non (nomark _)) (q_one (q_cmp op_ge (qv 0) (qv 1) (nomark _)))))), ?_⟩
  refine ⟨_, rfl, rfl, _, rfl, ?_⟩
  cases o with
  | none =>
    refine ifND (fun z => absurd rfl z) (fun _ => ?_)
    exact k
  | some n =>
    refine ifND (fun _ => ?_) (fun z => nomatch z)
    refine ⟨_, rfl, _, rfl, _, _, rfl, rfl, ?_⟩
    dsimp only
    rw [show decide ((m : Int) ≤ (n : Int)) = decide (m ≤ n) from decide_eq_decide.mpr (by omega)]
    exact k
def sp_count_telling (K : PySem.W.Frag) (t : Adr) : Sp := sp1 fun x H Q => ∃ L d, x = .ref L.b ∧ Rep t L H d ∧ Good d.1 ∧ d.2.length < 90000 ∧ ∀ H', Rp t L H H' (tellStep d) → Q .non H'
theorem ok_count_telling (T : Txt K mg t) : FnOk P w K mg base CX0 6 t.f_count_telling t.fd_count_telling ["bridge"] (sp_count_telling K t) := by
  refine T.F_count_telling.okQ sc_count_telling sp1_len (fun cdv A outer s H vs Q E hr h => ?_)
  obtain ⟨x0, rfl, h⟩ := h
  obtain ⟨L, d, rfl, R, g, hz, k⟩ := h
  obtain ⟨dx, tr, hb⟩ := R.br
  rw [tellStep_run] at k
  refine ⟨_, (qb_cons (qs_fld (K := K) rfl (qv 0) (q_call (ok_one_more (K := K) T) (hr.mono (by decide)) rfl T.m_one_more T.F_one_more.kp T.b_one_more .nil pass0 (qac (q_fld (K := K) rfl (qv 0) rfl) qa_nil)) rfl) (qb_one (qs_if (qt_val (q_call (ok_is_out (K := K) T) (hr.mono (by decide)) rfl T.m_is_out T.F_is_out.kp T.b_is_out .nil pass0 (qac (q_fld (K := K) rfl (qv 0) rfl) (qac (q_fld (K := K) rfl (q_fld (K := K) rfl (qv 0) rfl) rfl) qa_nil)))) (qb_cons (qs_expr (q_meth0 (qv 0) T.l_Bridge T.M_Bridge_all_tell (ok_Bridge_all_tell (K := K) T) (hr.mono (by decide)) T.b_Bridge_all_tell .nil pass0)) (qb_one (qs_fld (K := K) rfl (qv 0) q_int rfl))) qb_nil))), ?_⟩
  refine ⟨_, rfl, L.b, _, _, _, _, rfl, hb.at_, T.l_Bridge, T.a_Bridge_telling, g_Bridge_telling, _, rfl, d.1.telling, rfl, _, rfl, L.b, _, dx, _, rfl, hb.at_, T.l_Bridge, T.a_Bridge_telling, few, ?_⟩
  have R1 := R.rp.setBr (b := (tg (up d.1.telling) d).1) (dx := dx) (tr := tr) rfl rfl hb.times
  obtain ⟨dx1, tr1, hb1⟩ := R1.rep.br
  obtain ⟨dt1, ht1⟩ := hb1.times
  refine ⟨_, rfl, L.b, _, _, _, _, rfl, hb1.at_, T.l_Bridge, T.a_Bridge_telling, g_Bridge_telling, _, rfl, L.b, _, _, _, _, rfl, hb1.at_, T.l_Bridge, T.a_Bridge_times, g_Bridge_times, tr1, _, _, _, _, rfl, ht1, T.l_Times, T.a_Times_between, g_Times_between, _, _, rfl, up d.1.telling, d.1.hello, rfl, rfl, _, rfl, ?_⟩
  refine ifB (fun c => ?_) (fun c => ?_)
  · rw [if_pos c] at k
    have g1 : Good (tg (up d.1.telling) d).1 := g.of rfl rfl rfl rfl
    refine ⟨_, rfl, L.b, _, _, rfl, hb1.at_, x_Bridge_all_tell, _, rfl, L, tg (up d.1.telling) d, rfl, R1.rep, g1, hz, fun H2 R2 => ?_⟩
    have R2 := R1.trans R2
    obtain ⟨dx2, tr2, hb2⟩ := R2.rep.br
    refine ⟨_, rfl, L.b, _, dx2, _, rfl, hb2.at_, T.l_Bridge, T.a_Bridge_telling, few, ?_⟩
    exact k _ (R2.setBr (b := { (Ql46.tellAll (tg (up d.1.telling) d)).1 with telling := some 0 }) (dx := dx2) (tr := tr2) rfl rfl hb2.times)
  · rw [if_neg (by rw [c]; exact Bool.false_ne_true)] at k
    exact k _ R1
def sp_count_asking (K : PySem.W.Frag) (t : Adr) : Sp := sp1 fun x H Q => ∃ L d, x = .ref L.b ∧ Rep t L H d ∧ d.2.length < 90000 ∧ ∀ H', Rp t L H H' (askStep d) → Q .non H'
theorem ok_count_asking (T : Txt K mg t) : FnOk P w K mg base CX0 6 t.f_count_asking t.fd_count_asking ["bridge"] (sp_count_asking K t) := by
  refine T.F_count_asking.okQ sc_count_asking sp1_len (fun cdv A outer s H vs Q E hr h => ?_)
  obtain ⟨x0, rfl, h⟩ := h
  obtain ⟨L, d, rfl, R, hz, k⟩ := h
  obtain ⟨dx, tr, hb⟩ := R.br
  rw [askStep_run] at k
  refine ⟨_, (qb_cons (qs_fld (K := K) rfl (qv 0) (q_call (ok_one_more (K := K) T) (hr.mono (by decide)) rfl T.m_one_more T.F_one_more.kp T.b_one_more .nil pass0 (qac (q_fld (K := K) rfl (qv 0) rfl) qa_nil)) rfl) (qb_one (qs_if (qt_val (q_call (ok_is_out (K := K) T) (hr.mono (by decide)) rfl T.m_is_out T.F_is_out.kp T.b_is_out .nil pass0 (qac (q_fld (K := K) rfl (qv 0) rfl) (qac (q_gi rfl T.c_ASKING_SECONDS) qa_nil)))) (qb_one (qs_expr (q_meth0 (qv 0) T.l_Bridge T.M_Bridge_start_asking (ok_Bridge_start_asking (K := K) T) (hr.mono (by decide)) T.b_Bridge_start_asking .nil pass0))) qb_nil))), ?_⟩
  refine ⟨_, rfl, L.b, _, _, _, _, rfl, hb.at_, T.l_Bridge, T.a_Bridge_asking, g_Bridge_asking, _, rfl, d.1.asking, rfl, _, rfl, L.b, _, dx, _, rfl, hb.at_, T.l_Bridge, T.a_Bridge_asking, few, ?_⟩
  have R1 := R.rp.setBr (b := { d.1 with asking := up d.1.asking }) (dx := dx) (tr := tr) rfl rfl hb.times
  obtain ⟨dx1, tr1, hb1⟩ := R1.rep.br
  refine ⟨_, rfl, L.b, _, _, _, _, rfl, hb1.at_, T.l_Bridge, T.a_Bridge_asking, g_Bridge_asking, _, _, rfl, up d.1.asking, 2, rfl, rfl, _, rfl, ?_⟩
  refine ifB (fun c => ?_) (fun c => ?_)
  · rw [if_pos c] at k
    exact ⟨_, rfl, L.b, _, _, rfl, hb1.at_, x_Bridge_start_asking, _, rfl, L, _, rfl, R1.rep, by show d.2.length < _; omega, fun H2 R2 => k _ (R1.trans R2)⟩
  · rw [if_neg (by rw [c]; exact Bool.false_ne_true)] at k
    exact k _ R1
def sp_count_changing (K : PySem.W.Frag) (t : Adr) : Sp := sp1 fun x H Q => ∃ L d, x = .ref L.b ∧ Rep t L H d ∧ ∀ H', Rp t L H H' (changeStep d) → Q .non H'
theorem ok_count_changing (T : Txt K mg t) : FnOk P w K mg base CX0 2 t.f_count_changing t.fd_count_changing ["bridge"] (sp_count_changing K t) := by
  refine T.F_count_changing.okQ sc_count_changing sp1_len (fun cdv A outer s H vs Q E hr h => ?_)
  obtain ⟨x0, rfl, h⟩ := h
  obtain ⟨L, d, rfl, R, k⟩ := h
  obtain ⟨dx, tr, hb⟩ := R.br
  rw [changeStep_run] at k
  refine ⟨_, (qb_cons (qs_fld (K := K) rfl (qv 0) (q_call (ok_one_more (K := K) T) (hr.mono (by decide)) rfl T.m_one_more T.F_one_more.kp T.b_one_more .nil pass0 (qac (q_fld (K := K) rfl (qv 0) rfl) qa_nil)) rfl) (qb_one (qs_if (qt_val (q_call (ok_is_out (K := K) T) (hr.mono (by decide)) rfl T.m_is_out T.F_is_out.kp T.b_is_out .nil pass0 (qac (q_fld (K := K) rfl (qv 0) rfl) (qac (q_gi rfl T.c_CHANGING_SECONDS) qa_nil)))) (qb_cons (qs_fld (K := K) rfl (qv 0) q_non rfl) (qb_cons (qs_fld (K := K) rfl (qv 0) q_bl rfl) (qb_one (qs_fld (K := K) rfl (qv 0) q_bl rfl)))) qb_nil))), ?_⟩
  refine ⟨_, rfl, L.b, _, _, _, _, rfl, hb.at_, T.l_Bridge, T.a_Bridge_changing, g_Bridge_changing, _, rfl, d.1.changing, rfl, _, rfl, L.b, _, dx, _, rfl, hb.at_, T.l_Bridge, T.a_Bridge_changing, few, ?_⟩
  have R1 := R.rp.setBr (b := { d.1 with changing := up d.1.changing }) (dx := dx) (tr := tr) rfl rfl hb.times
  obtain ⟨dx1, tr1, hb1⟩ := R1.rep.br
  refine ⟨_, rfl, L.b, _, _, _, _, rfl, hb1.at_, T.l_Bridge, T.a_Bridge_changing, g_Bridge_changing, _, _, rfl, up d.1.changing, 35, rfl, rfl, _, rfl, ?_⟩
  refine ifB (fun c => ?_) (fun c => ?_)
  · rw [if_pos c] at k
    refine ⟨_, rfl, L.b, _, dx1, _, rfl, hb1.at_, T.l_Bridge, T.a_Bridge_changing, few, ?_⟩
    refine ⟨_, rfl, L.b, _, dx1, _, rfl, upd_same, T.l_Bridge, T.a_Bridge_change_found, few, ?_⟩
    refine ⟨_, rfl, L.b, _, dx1, _, rfl, upd_same, T.l_Bridge, T.a_Bridge_change_there, few, ?_⟩
    rw [upd_upd, upd_upd]
    exact k _ (R1.setBr (b := { d.1 with changing := none, found := false, change := false }) (dx := dx1) (tr := tr1) rfl rfl hb1.times)
  · rw [if_neg (by rw [c]; exact Bool.false_ne_true)] at k
    exact k _ R1
theorem up_none {o : Option Nat} (h : o = none) : up o = none := by rw [h]; rfl
def sp_count_age (K : PySem.W.Frag) (t : Adr) : Sp := sp2 fun x y H Q => ∃ L d i a, x = .ref L.b ∧ y = .ref a ∧ L.ps[i]? = some a ∧ Rep t L H d ∧ Good d.1 ∧ d.2.length < 60000 ∧ ∀ H', Rp t L H H' (ageTurn (i + 1) d) → Q .non H'
theorem ok_count_age (T : Txt K mg t) : FnOk P w K mg base CX0 11 t.f_count_age t.fd_count_age ["bridge", "port"] (sp_count_age K t) := by
  refine T.F_count_age.okQ sc_count_age sp2_len (fun cdv A outer s H vs Q E hr h => ?_)
  obtain ⟨x0, x1, rfl, h⟩ := h
  obtain ⟨L, d, i, a, rfl, rfl, hi, R, g, hz, k⟩ := h
  obtain ⟨dp, lr, wc, hp⟩ := R.po i a hi
  rw [ageTurn_run g (R.ilt hi)] at k
  refine ⟨_, (qb_cons (qs_fld (K := K) rfl (qv 1) (q_call (ok_one_more (K := K) T) (hr.mono (by decide)) rfl T.m_one_more T.F_one_more.kp T.b_one_more .nil pass0 (qac (q_fld (K := K) rfl (qv 1) rfl) qa_nil)) rfl) (qb_one (qs_if (qt_val (q_call (ok_is_out (K := K) T) (hr.mono (by decide)) rfl T.m_is_out T.F_is_out.kp T.b_is_out .nil pass0 (qac (q_fld (K := K) rfl (qv 1) rfl) (qac (q_fld (K := K) rfl (q_fld (K := K) rfl (qv 0) rfl) rfl) qa_nil)))) (qb_cons (qs_expr (q_meth (qv 0) T.l_Bridge T.M_Bridge_lead (ok_Bridge_lead (K := K) T) (hr.mono (by decide)) T.b_Bridge_lead .nil pass0 (qac (qv 1) qa_nil))) (qb_one (qs_expr (q_meth0 (qv 0) T.l_Bridge T.M_Bridge_settle (ok_Bridge_settle (K := K) T) (hr.mono (by decide)) T.b_Bridge_settle .nil pass0)))) qb_nil))), ?_⟩
  refine ⟨_, rfl, a, _, _, _, _, rfl, hp.at_, T.l_Port, T.a_Port_age, g_Port_age, _, rfl, (d.1.port (i + 1)).age, rfl, _, rfl, a, _, dp, _, rfl, hp.at_, T.l_Port, T.a_Port_age, few, ?_⟩
  rw [show putF "age" (optV (up (d.1.port (i + 1)).age)) (poF (i + 1) (d.1.port (i + 1)) lr wc) = poF (i + 1) { d.1.port (i + 1) with age := up (d.1.port (i + 1)).age } lr wc from rfl]
  have R1 := R.rp.setPort (dx := dp) (lr := lr) (wc := wc) hi (q := { d.1.port (i + 1) with age := up (d.1.port (i + 1)).age }) hp.lead hp.way
  have g1 : Good (d.1.set (i + 1) { d.1.port (i + 1) with age := up (d.1.port (i + 1)).age }) := g.set (i + 1) (g.st (i + 1)) (fun e => ⟨up_none (g.off (i + 1) e).1, (g.off (i + 1) e).2⟩)
  obtain ⟨dx1, tr1, hb1⟩ := R1.rep.br
  obtain ⟨dt1, ht1⟩ := hb1.times
  refine ⟨_, rfl, a, _, _, _, _, rfl, upd_same, T.l_Port, T.a_Port_age, g_Port_age, _, rfl, L.b, _, _, _, _, rfl, hb1.at_, T.l_Bridge, T.a_Bridge_times, g_Bridge_times, tr1, _, _, _, _, rfl, ht1, T.l_Times, T.a_Times_oldest, g_Times_oldest, _, _, rfl, up (d.1.port (i + 1)).age, d.1.maxAge, rfl, rfl, _, rfl, ?_⟩
  refine ifB (fun c => ?_) (fun c => ?_)
  · rw [if_pos c] at k
    refine ⟨_, rfl, L.b, _, _, rfl, hb1.at_, x_Bridge_lead, _, rfl, _, _, rfl, L, _, i, a, rfl, rfl, hi, R1.rep, fun H2 R2 => ?_⟩
    have R2 := R1.trans R2
    have g2 := (ok_lead _ (i + 1) d.2).good' g1
    obtain ⟨dx2, tr2, hb2⟩ := R2.rep.br
    exact ⟨_, rfl, L.b, _, _, rfl, hb2.at_, x_Bridge_settle, _, rfl, L, _, rfl, R2.rep, g2, by show d.2.length < _; omega, fun H3 R3 => k _ (R2.trans R3)⟩
  · rw [if_neg (by rw [c]; exact Bool.false_ne_true)] at k
    exact k _ R1
def ledB (b : Ql46.Bridge) (n : Nat) : List Bool := (List.range n).map fun i => (b.port (i + 1)).bridge == b.id
theorem ledB_any (b : Ql46.Bridge) : (ledB b b.ports.length).any id = Ql46.someLead b := by
  unfold ledB Ql46.someLead Ql46.Bridge.all
  rw [List.any_map, List.any_map]
  rfl
theorem ledB_succ (b : Ql46.Bridge) (n : Nat) : ledB b (n + 1) = ledB b n ++ [(b.port (n + 1)).bridge == b.id] := by
  unfold ledB
  rw [List.range_succ, List.map_append]
  rfl
def sp_Bridge_leads_any_net (K : PySem.W.Frag) (t : Adr) : Sp := sp1 fun x H Q => ∃ L d, x = .ref L.b ∧ Rep t L H d ∧ d.1.ports.length ≤ 16 ∧ ∀ H', Same H H' → Q (.bl (Ql46.someLead d.1)) H'
theorem ok_Bridge_leads_any_net (T : Txt K mg t) : FnOk P w K mg base CX0 1 t.f_Bridge_leads_any_net t.fd_Bridge_leads_any_net ["self"] (sp_Bridge_leads_any_net K t) := by
  refine T.F_Bridge_leads_any_net.okQ sc_Bridge_leads_any_net sp1_len (fun cdv A outer s H vs Q E hr h => ?_)
  obtain ⟨x0, rfl, h⟩ := h
  obtain ⟨L, d, rfl, R, hf, k⟩ := h
  obtain ⟨dx, tr, hb⟩ := R.br
  refine ⟨_, (qb_one (qs_ret (q_callB (k_any (K := K) rfl rfl) rfl T.n_any PyProof.Rows.boot_any (qac (q_lc (own := [("port", 1)]) rfl sc_Bridge_leads_any_net.nd (qi_list (K := K) rfl (q_fld (K := K) rfl (qv 0) rfl)) (blkOk_by rfl) (fun _ _ _ _ _ => (qg_name (i := 1) sc_Bridge_leads_any_net.nd rfl (Or.inl rfl))) (fun _ _ _ _ _ => qts_nil) (fun _ _ _ _ _ => (q_cmp op_eq (q_fld (K := K) rfl (q_fld (K := K) rfl (qv 1) rfl) rfl) (q_fld (K := K) rfl (qv 0) rfl) (nomark _)))) qa_nil)))), ?_⟩
  refine ⟨_, rfl, L.b, _, _, _, _, rfl, hb.at_, T.l_Bridge, T.a_Bridge_ports, g_Bridge_ports, L.pl, rfl, ⟨_, SqL.of R.pl⟩, fun D hD => lc_list (K := K) (a := L.pl) (xs := L.ps.map V.ref) (fun i H' => H' = upd H D (.lst ((ledB d.1 i).map V.bl))) rfl (fun i H' _ e => ?_) (fun i x H' hi e => ?_) (fun H' e => ?_)⟩
  · rw [e]; exact SqL.of (Same.new hD _ _ R.pl)
  · subst e
    rw [List.getElem?_map] at hi
    cases e : L.ps[i]? with
    | none => rw [e] at hi; cases hi
    | some a =>
      rw [e] at hi
      cases hi
      have S := Same.new (o := .lst ((ledB d.1 i).map V.bl)) hD
      obtain ⟨dp, lr, wc, hp⟩ := R.po i a e
      obtain ⟨dl, hl⟩ := hp.lead
      refine ⟨rfl, yes_lc ?_⟩
      refine ⟨_, rfl, a, _, _, _, _, rfl, S _ _ hp.at_, T.l_Port, T.a_Port_leader, g_Port_leader, lr, _, _, _, _, rfl, S _ _ hl, T.l_Leader, T.a_Leader_bridge, g_Leader_bridge, _, rfl, L.b, _, _, _, _, rfl, S _ _ hb.at_, T.l_Bridge, T.a_Bridge_own_id, g_Bridge_own_id, rfl, _, upd_same, ?_, ?_⟩
      · have h1 : ((ledB d.1 i).map V.bl).length = i := by unfold ledB; rw [List.length_map, List.length_map, List.length_range]
        rw [h1]
        exact Nat.lt_of_lt_of_le (R.ilt e) (Nat.le_trans hf (by decide))
      · rw [upd_upd, ledB_succ, List.map_append, int_beq]
        rfl
  · subst e
    rw [List.length_map, R.len]
    refine ⟨D, ledB d.1 d.1.ports.length, rfl, SqL.of upd_same, ?_⟩
    rw [ledB_any]
    exact k _ (Same.new hD)
def sp_count_wait (K : PySem.W.Frag) (t : Adr) : Sp := sp2 fun x y H Q => ∃ L d i a, x = .ref L.b ∧ y = .ref a ∧ L.ps[i]? = some a ∧ Rep t L H d ∧ Good d.1 ∧ d.2.length < 60000 ∧ ∀ H', Rp t L H H' (waitTurn (i + 1) d) → Q .non H'
theorem ok_count_wait (T : Txt K mg t) : FnOk P w K mg base CX0 7 t.f_count_wait t.fd_count_wait ["bridge", "port"] (sp_count_wait K t) := by
  refine T.F_count_wait.okQ sc_count_wait sp2_len (fun cdv A outer s H vs Q E hr h => ?_)
  obtain ⟨x0, x1, rfl, h⟩ := h
  obtain ⟨L, d, i, a, rfl, rfl, hi, R, g, hz, k⟩ := h
  obtain ⟨dp, lr, wc, hp⟩ := R.po i a hi
  rw [waitTurn_run g] at k
  refine ⟨_, (qb_cons (qs_fld (K := K) rfl (qv 1) (q_call (ok_one_more (K := K) T) (hr.mono (by decide)) rfl T.m_one_more T.F_one_more.kp T.b_one_more .nil pass0 (qac (q_fld (K := K) rfl (qv 1) rfl) qa_nil)) rfl) (qb_cons (qs_if (qt_not (qt_val (q_call (ok_is_out (K := K) T) (hr.mono (by decide)) rfl T.m_is_out T.F_is_out.kp T.b_is_out .nil pass0 (qac (q_fld (K := K) rfl (qv 1) rfl) (qac (q_fld (K := K) rfl (q_fld (K := K) rfl (qv 0) rfl) rfl) qa_nil))))) (qb_one qs_retN) qb_nil) (qb_one (qs_if (qt_cmp op_eq (q_fld (K := K) rfl (qv 1) rfl) (q_gi rfl T.c_LISTENING) (nomark _)) (qb_cons (qs_fld (K := K) rfl (qv 1) (q_gi rfl T.c_LEARNING) rfl) (qb_one (qs_fld (K := K) rfl (qv 1) q_int rfl))) (qb_cons (qs_fld (K := K) rfl (qv 1) (q_gi rfl T.c_FORWARDING) rfl) (qb_cons (qs_fld (K := K) rfl (qv 1) q_non rfl) (qb_one (qs_if (qt_val (q_meth0 (qv 0) T.l_Bridge T.M_Bridge_leads_any_net (ok_Bridge_leads_any_net (K := K) T) (hr.mono (by decide)) T.b_Bridge_leads_any_net .nil pass0)) (qb_one (qs_expr (q_meth0 (qv 0) T.l_Bridge T.M_Bridge_find_change (ok_Bridge_find_change (K := K) T) (hr.mono (by decide)) T.b_Bridge_find_change .nil pass0))) qb_nil)))))))), ?_⟩
  refine ⟨_, rfl, a, _, _, _, _, rfl, hp.at_, T.l_Port, T.a_Port_wait, g_Port_wait, _, rfl, (d.1.port (i + 1)).wait, rfl, _, rfl, a, _, dp, _, rfl, hp.at_, T.l_Port, T.a_Port_wait, few, ?_⟩
  rw [show putF "wait" (optV (up (d.1.port (i + 1)).wait)) (poF (i + 1) (d.1.port (i + 1)) lr wc) = poF (i + 1) { d.1.port (i + 1) with wait := up (d.1.port (i + 1)).wait } lr wc from rfl]
  have R1 := R.rp.setPort (dx := dp) (lr := lr) (wc := wc) hi (q := { d.1.port (i + 1) with wait := up (d.1.port (i + 1)).wait }) hp.lead hp.way
  obtain ⟨dx1, tr1, hb1⟩ := R1.rep.br
  obtain ⟨dt1, ht1⟩ := hb1.times
  refine ⟨_, rfl, a, _, _, _, _, rfl, upd_same, T.l_Port, T.a_Port_wait, g_Port_wait, _, rfl, L.b, _, _, _, _, rfl, hb1.at_, T.l_Bridge, T.a_Bridge_times, g_Bridge_times, tr1, _, _, _, _, rfl, ht1, T.l_Times, T.a_Times_wait, g_Times_wait, _, _, rfl, up (d.1.port (i + 1)).wait, d.1.delay, rfl, rfl, _, rfl, ?_⟩
  refine ifB (fun c => ?_) (fun c => ?_)
  · rw [if_neg (fun z => by rw [z] at c; cases c)] at k
    exact k _ R1
  have c : outB (up (d.1.port (i + 1)).wait) d.1.delay = true := by
    cases e : outB (up (d.1.port (i + 1)).wait) d.1.delay
    · rw [e] at c; cases c
    · rfl
  rw [if_pos c] at k
  have hs : (d.1.port (i + 1)).state ≠ 0 := fun z => out_some c (g.off (i + 1) z).2.1
  refine ⟨_, rfl, a, _, _, _, _, rfl, upd_same, T.l_Port, T.a_Port_state, g_Port_state, rfl, _, rfl, ?_⟩
  rw [show (V.int 2) = V.int ((2 : Nat) : Int) from rfl, int_beq]
  refine ifB (fun c2 => ?_) (fun c2 => ?_)
  · rw [if_pos (eq_of_beq c2)] at k
    refine ⟨_, rfl, a, _, dp, _, rfl, upd_same, T.l_Port, T.a_Port_state, few, ?_⟩
    refine ⟨_, rfl, a, _, dp, _, rfl, upd_same, T.l_Port, T.a_Port_wait, few, ?_⟩
    rw [upd_upd, upd_upd]
    exact k _ (R.rp.setPort (dx := dp) (lr := lr) (wc := wc) hi (q := { d.1.port (i + 1) with state := 3, wait := some 0 }) hp.lead fun _ => hp.way hs)
  · rw [if_neg (fun z => by dsimp only at c2; rw [z] at c2; cases c2)] at k
    refine ⟨_, rfl, a, _, dp, _, rfl, upd_same, T.l_Port, T.a_Port_state, few, ?_⟩
    refine ⟨_, rfl, a, _, dp, _, rfl, upd_same, T.l_Port, T.a_Port_wait, few, ?_⟩
    rw [upd_upd, upd_upd]
    have R2 := R.rp.setPort (dx := dp) (lr := lr) (wc := wc) hi (q := { d.1.port (i + 1) with state := 4, wait := none }) hp.lead fun _ => hp.way hs
    have g2 : Good (d.1.set (i + 1) { d.1.port (i + 1) with state := 4, wait := none }) := g.set (i + 1) sz (OffP.on (Nat.succ_ne_zero _))
    obtain ⟨dx2, tr2, hb2⟩ := R2.rep.br
    refine ⟨_, rfl, L.b, _, _, rfl, hb2.at_, x_Bridge_leads_any_net, _, rfl, L, _, rfl, R2.rep, g2.few, fun H3 S3 => ⟨_, rfl, ?_⟩⟩
    have R3 := R2.same S3
    refine ifB (fun c3 => ?_) (fun c3 => ?_)
    · rw [if_pos c3] at k
      exact ⟨_, rfl, L.b, _, _, rfl, S3 _ _ hb2.at_, x_Bridge_find_change, _, rfl, L, _, rfl, R3.rep, g2.root, by show d.2.length < _; omega, fun H4 R4 => k _ (R3.trans R4)⟩
    · rw [if_neg (by rw [c3]; exact Bool.false_ne_true)] at k
      exact k _ R3
def sp_count_hold (K : PySem.W.Frag) (t : Adr) : Sp := sp2 fun x y H Q => ∃ L d i a, x = .ref L.b ∧ y = .ref a ∧ L.ps[i]? = some a ∧ Rep t L H d ∧ Good d.1 ∧ d.2.length < 60000 ∧ ∀ H', Rp t L H H' (holdTurn (i + 1) d) → Q .non H'
theorem ok_count_hold (T : Txt K mg t) : FnOk P w K mg base CX0 5 t.f_count_hold t.fd_count_hold ["bridge", "port"] (sp_count_hold K t) := by
  refine T.F_count_hold.okQ sc_count_hold sp2_len (fun cdv A outer s H vs Q E hr h => ?_)
  obtain ⟨x0, x1, rfl, h⟩ := h
  obtain ⟨L, d, i, a, rfl, rfl, hi, R, g, hz, k⟩ := h
  obtain ⟨dp, lr, wc, hp⟩ := R.po i a hi
  rw [holdTurn_run] at k
  refine ⟨_, (qb_cons (qs_fld (K := K) rfl (qv 1) (q_call (ok_one_more (K := K) T) (hr.mono (by decide)) rfl T.m_one_more T.F_one_more.kp T.b_one_more .nil pass0 (qac (q_fld (K := K) rfl (qv 1) rfl) qa_nil)) rfl) (qb_one (qs_if (qt_val (q_call (ok_is_out (K := K) T) (hr.mono (by decide)) rfl T.m_is_out T.F_is_out.kp T.b_is_out .nil pass0 (qac (q_fld (K := K) rfl (qv 1) rfl) (qac (q_gi rfl T.c_HOLD_SECONDS) qa_nil)))) (qb_cons (qs_fld (K := K) rfl (qv 1) q_non rfl) (qb_one (qs_if (qt_val (q_fld (K := K) rfl (qv 1) rfl)) (qb_one (qs_expr (q_meth (qv 0) T.l_Bridge T.M_Bridge_tell (ok_Bridge_tell (K := K) T) (hr.mono (by decide)) T.b_Bridge_tell .nil pass0 (qac (qv 1) qa_nil)))) qb_nil))) qb_nil))), ?_⟩
  refine ⟨_, rfl, a, _, _, _, _, rfl, hp.at_, T.l_Port, T.a_Port_hold, g_Port_hold, _, rfl, (d.1.port (i + 1)).hold, rfl, _, rfl, a, _, dp, _, rfl, hp.at_, T.l_Port, T.a_Port_hold, few, ?_⟩
  rw [show putF "hold" (optV (up (d.1.port (i + 1)).hold)) (poF (i + 1) (d.1.port (i + 1)) lr wc) = poF (i + 1) { d.1.port (i + 1) with hold := up (d.1.port (i + 1)).hold } lr wc from rfl]
  have R1 := R.rp.setPort (dx := dp) (lr := lr) (wc := wc) hi (q := { d.1.port (i + 1) with hold := up (d.1.port (i + 1)).hold }) hp.lead hp.way
  refine ⟨_, rfl, a, _, _, _, _, rfl, upd_same, T.l_Port, T.a_Port_hold, g_Port_hold, _, _, rfl, up (d.1.port (i + 1)).hold, 1, rfl, rfl, _, rfl, ?_⟩
  refine ifB (fun c => ?_) (fun c => ?_)
  · rw [if_pos c] at k
    refine ⟨_, rfl, a, _, dp, _, rfl, upd_same, T.l_Port, T.a_Port_hold, few, ?_⟩
    rw [upd_upd, show putF "hold" V.non (poF (i + 1) { d.1.port (i + 1) with hold := up (d.1.port (i + 1)).hold } lr wc) = poF (i + 1) { d.1.port (i + 1) with hold := none } lr wc from rfl]
    have R2 := R.rp.setPort (dx := dp) (lr := lr) (wc := wc) hi (q := { d.1.port (i + 1) with hold := none }) hp.lead hp.way
    obtain ⟨dx2, tr2, hb2⟩ := R2.rep.br
    refine ⟨_, rfl, a, _, _, _, _, rfl, upd_same, T.l_Port, T.a_Port_to_tell, g_Port_to_tell, _, rfl, ?_⟩
    refine ifB (fun c2 => ?_) (fun c2 => ?_)
    · rw [if_pos c2] at k
      refine ⟨_, rfl, L.b, _, _, rfl, hb2.at_, x_Bridge_tell, _, rfl, _, _, rfl, L, _, i, a, rfl, rfl, hi, R2.rep, fun z => ?_, by show d.2.length < _; omega, fun H3 R3 => k _ (R2.trans R3)⟩
      rw [set_len]
      exact g.root z
    · rw [if_neg (by rw [c2]; exact Bool.false_ne_true)] at k
      exact k _ R2
  · rw [if_neg (by rw [c]; exact Bool.false_ne_true)] at k
    exact k _ R1
def sp_address_seconds (K : PySem.W.Frag) (t : Adr) : Sp := sp1 fun x H Q => ∃ L d, x = .ref L.b ∧ Rep t L H d ∧ Q (.int ((if d.1.change = true then d.1.delay else 300 : Nat) : Int)) H
theorem ok_address_seconds (T : Txt K mg t) : FnOk P w K mg base CX0 1 t.f_address_seconds t.fd_address_seconds ["bridge"] (sp_address_seconds K t) := by
  refine T.F_address_seconds.okQ sc_address_seconds sp1_len (fun cdv A outer s H vs Q E hr h => ?_)
  obtain ⟨x0, rfl, h⟩ := h
  obtain ⟨L, d, rfl, R, k⟩ := h
  obtain ⟨dx, tr, hb⟩ := R.br
  obtain ⟨dt, ht⟩ := hb.times
  refine ⟨_, (qb_one (qs_ret (q_ifx (qt_val (q_fld (K := K) rfl (qv 0) rfl)) (q_fld (K := K) rfl (q_fld (K := K) rfl (qv 0) rfl) rfl) (q_gi rfl T.c_ADDRESS_SECONDS)))), ?_⟩
  refine ⟨_, rfl, L.b, _, _, _, _, rfl, hb.at_, T.l_Bridge, T.a_Bridge_change_there, g_Bridge_change_there, _, rfl, ?_⟩
  refine ifB (fun c => ?_) (fun c => ?_)
  · rw [if_pos c] at k
    exact ⟨_, rfl, L.b, _, _, _, _, rfl, hb.at_, T.l_Bridge, T.a_Bridge_times, g_Bridge_times, tr, _, _, _, _, rfl, ht, T.l_Times, T.a_Times_wait, g_Times_wait, k⟩
  · rw [if_neg (by rw [c]; exact Bool.false_ne_true)] at k
    exact k
end
end Tb
local macro_rules | `(tactic| walk_at "ift") => `(tactic| (dsimp only; rw [if_pos rfl]))
local macro_rules | `(tactic| walk_at "iff") => `(tactic| (dsimp only; rw [if_neg Bool.false_ne_true]))
namespace Tb
open PySem PySem.Spec PyProof.Rows L2
def agedT (m : Nat) (l : List (Nat × Nat × Nat)) : List (Nat × Nat × Nat) := (l.map fun x => (x.1, x.2.1, x.2.2 + 1)).filter fun x => decide (x.2.2 < m)
theorem aged_snoc (m : Nat) (l : List (Nat × Nat × Nat)) (x : Nat × Nat × Nat) : agedT m (l ++ [x]) = if x.2.2 + 1 < m then agedT m l ++ [(x.1, x.2.1, x.2.2 + 1)] else agedT m l := by
  unfold agedT
  rw [List.map_append, List.filter_append, List.map_cons, List.map_nil, List.filter_cons]
  dsimp only
  by_cases h : x.2.2 + 1 < m
  · rw [if_pos h, if_pos (decide_eq_true h), List.filter_nil]
  · rw [if_neg h, if_neg (by rw [decide_eq_false h]; exact Bool.false_ne_true), List.filter_nil, List.append_nil]
theorem aged_mem {m : Nat} {l : List (Nat × Nat × Nat)} {y : Nat × Nat × Nat} (h : y ∈ agedT m l) : ∃ x ∈ l, x.1 = y.1 := by
  unfold agedT at h
  obtain ⟨x, hx, e⟩ := List.mem_map.mp (List.mem_filter.mp h).1
  exact ⟨x, hx, by rw [← e]⟩
theorem aged_rev (m : Nat) (l : List (Nat × Nat × Nat)) : agedT m l.reverse = (agedT m l).reverse := by
  unfold agedT
  rw [List.map_reverse, List.filter_reverse]
section
variable {P : Program} {w : World} {K : PySem.W.Frag} {mg : Str → Option Value} {base : Heap} {t : Adr}
theorem TF.keep {H H' : Hp} {x : Nat × Nat × Nat} {kv : Key × V} (h : TF H x kv) (k : ∀ r xs, H r = some (.tup xs) → H' r = some (.tup xs)) : TF H' x kv :=
  let ⟨e1, r, e2, e3⟩ := h
  ⟨e1, r, e2, k r _ e3⟩
def sp_Addresses_grow_older (K : PySem.W.Frag) (t : Adr) : Sp := sp2 fun x y H Q => ∃ L d, ∃ m : Nat, x = .ref L.ad ∧ y = .int (m : Nat) ∧ Rep t L H d ∧ TabOk d.1 ∧
  ∀ H' q, Rep t { L with hd := q } H' ({ d.1 with table := agedT m d.1.table }, d.2) → Kp L H H' → H q = none → Q .non H'
theorem ok_Addresses_grow_older (T : Txt K mg t) : FnOk P w K mg base CX0 1 t.f_Addresses_grow_older t.fd_Addresses_grow_older ["self", "oldest"] (sp_Addresses_grow_older K t) := by
  refine T.F_Addresses_grow_older.okQ sc_Addresses_grow_older sp2_len (fun cdv A outer s H vs Q E hr h => ?_)
  obtain ⟨x0, x1, rfl, h⟩ := h
  obtain ⟨L, d, m, rfl, rfl, R, tk, k⟩ := h
  obtain ⟨da, hA⟩ := R.ad
  obtain ⟨kvs, hd, pr⟩ := R.tab
  refine ⟨_, (qb_cons (qs_set (i := 2) sc_Addresses_grow_older.nd rfl (Or.inl rfl) q_dnew) (qb_cons (qs_lock (qs_for PassesOwn.never rfl (qi_items (q_fld (K := K) rfl (qv 0) rfl)) (qg_tup (K := K) rfl rfl (qgs_cons (qg_name (i := 3) sc_Addresses_grow_older.nd rfl (Or.inl rfl)) (qgs_cons (qg_name (i := 4) sc_Addresses_grow_older.nd rfl (Or.inl rfl)) qgs_nil))) (qb_cons (qs_set (i := 5) sc_Addresses_grow_older.nd rfl (Or.inl rfl) (q_op op_add (q_ix (k_ixt (K := K) rfl) (qv 4) q_int (fun _ _ => rfl)) q_int)) (qb_one (qs_if (qt_cmp op_lt (qv 5) (qv 1) (nomark _)) (qb_one (qs_dput (hu_of hr) (qv 2) (qv 3) (q_tup (qac (q_ix (k_ixt (K := K) rfl) (qv 4) q_int (fun _ _ => rfl)) (qac (qv 5) qa_nil))) rfl)) qb_nil))))) (qb_one (qs_fld (K := K) rfl (qv 0) (qv 2) rfl)))), ?_⟩
  intro q hq
  have hqd : L.hd ≠ q := ne_of_none hd hq
  have hqa : L.ad ≠ q := ne_of_none hA hq
  refine ⟨L.hd, _, (upd_ne hqd).trans hd, trivial, fun od => ?_⟩
  have hda : L.ad ≠ L.hd := ne_shp hA hd rfl
  have stay : ∀ b o, H b = some o → b ≠ L.hd → (upd (upd H q (.dK [])) L.hd (.frz od (.dK kvs))) b = some o := fun b o e hb => by
    rw [upd_ne hb, upd_ne (ne_of_none e hq)]; exact e
  have hpl : kvs.length = d.1.table.length := by rw [← paired_len pr, List.length_reverse]
  refine ⟨_, rfl, L.ad, _, _, _, _, rfl, stay _ _ hA hda, T.l_Addresses, T.a_Addresses_heard, g_Addresses_heard, L.hd, od, kvs, rfl, upd_same, for_items (fun i σ H' => (∃ v3 v4 v5, σ = [some (.ref L.ad), some (.int (m : Nat)), some (.ref q), v3, v4, v5]) ∧
    (∀ b o, H b = some o → b ≠ L.hd → H' b = some o) ∧ H' L.hd = some (.frz od (.dK kvs)) ∧ ∃ kf, H' q = some (.dK kf) ∧ kf.length ≤ i ∧ Paired (TF H') (agedT m (d.1.table.reverse.take i)) kf) ?_ ?_ ?_ ?_⟩
  · exact ⟨⟨_, _, _, rfl⟩, stay, upd_same, [], by rw [upd_ne hqd.symm]; exact upd_same, Nat.le_refl _, .nil⟩
  · exact fun i σ H' _ ⟨_, _, e, _⟩ => e
  · rintro i ky v σ H' Tt hi ⟨⟨v3, v4, v5, rfl⟩, st, hfr, kf, hkf, hlf, pf⟩ hT
    obtain ⟨x, hx, e1, r, e2, e3⟩ := paired_ix pr hi
    dsimp only at e1 e2
    subst e2 e1
    have hr1 : H' r = some (.tup [.int (x.2.1 : Nat), .int (x.2.2 : Nat)]) := st _ _ e3 (ne_shp e3 hd rfl)
    have S := Same.new (o := .tup [kV (Sum.inl (x.1 : Int)), .ref r]) hT
    refine ⟨Tt, [kV (Sum.inl (x.1 : Int)), .ref r], rfl, SqT.of upd_same, rfl, _, _, rfl, _, _, rfl, rfl, ?_⟩
    have st2 : ∀ b o, H b = some o → b ≠ L.hd → upd H' Tt (.tup [kV (Sum.inl (x.1 : Int)), .ref r]) b = some o := fun b o e hb => S _ _ (st b o e hb)
    refine ⟨_, rfl, r, _, _, _, rfl, rfl, SqT.of (S _ _ hr1), at_of (j := 1) rfl rfl, _, _, rfl, rfl, ?_⟩
    refine ⟨_, rfl, _, rfl, _, _, rfl, rfl, _, rfl, ?_⟩
    have hlt : i < kvs.length := (List.getElem?_eq_some_iff.mp hi).1
    refine ifD (fun c => ?_) (fun c => ?_)
    · have c : x.2.2 + 1 < m := by omega
      have hnk : valV kf (Sum.inl (x.1 : Int)) = none := by
        cases hv : valV kf (Sum.inl (x.1 : Int)) with
        | none => rfl
        | some w' =>
          obtain ⟨y, hy, ey, _⟩ := tf_some pf hv
          obtain ⟨y, hy1, ey1⟩ := aged_mem hy
          have nd : (d.1.table.reverse.map (·.1)).Nodup := by
            rw [List.map_reverse]
            exact List.pairwise_reverse.mpr (tk.nd.imp fun h => Ne.symm h)
          obtain ⟨j, hj⟩ := List.getElem?_of_mem hy1
          have hj2 : j < i := by
            have := (List.getElem?_eq_some_iff.mp hj).1
            rw [List.length_take] at this
            omega
          rw [List.getElem?_take_of_lt hj2] at hj
          have q1 : (d.1.table.reverse.map (·.1))[j]? = some x.1 := by rw [List.getElem?_map, hj, ← ey, ← ey1]; rfl
          have q2 : (d.1.table.reverse.map (·.1))[i]? = some x.1 := by rw [List.getElem?_map, hx]; rfl
          have := nd_ix nd q1 q2
          omega
      refine ⟨_, rfl, r, _, _, _, rfl, rfl, SqT.of (S _ _ hr1), at_of (j := 0) rfl rfl, _, rfl, sz, fun u hu => ?_⟩
      have S2 := S.trans (Same.new (o := .tup [V.int (x.2.1 : Nat), V.int ((x.2.2 : Int) + 1)]) hu)
      refine ⟨_, rfl, _, rfl, q, _, rfl, DPut.k (k := Sum.inl (x.1 : Int)) (S2 _ _ hkf) (Nat.lt_of_le_of_lt hlf (Nat.lt_of_lt_of_le hlt (by rw [hpl]; exact Nat.le_trans tk.most (by decide)))), ?_⟩
      rw [putK_new _ hnk]
      refine ⟨⟨_, _, _, rfl⟩, fun b o e hb => ?_, ?_, _, upd_same, ?_, ?_⟩
      · rw [upd_ne (ne_of_none e hq)]; exact S2 _ _ (st b o e hb)
      · rw [upd_ne hqd]; exact S2 _ _ hfr
      · rw [List.length_append]; show kf.length + 1 ≤ i + 1; omega
      · rw [take_snoc hx, aged_snoc, if_pos c]
        have hqu : u ≠ q := fun z => by
          rw [z, S _ _ hkf] at hu; cases hu
        refine paired_snoc ⟨rfl, u, rfl, by rw [upd_ne hqu]; exact upd_same⟩ (paired_imp pf fun _ _ h => h.keep fun r' xs e => ?_)
        rw [upd_ne (ne_shp e hkf rfl)]; exact S2 _ _ e
    · refine ⟨⟨_, _, _, rfl⟩, st2, S _ _ hfr, kf, S _ _ hkf, Nat.le_succ_of_le hlf, ?_⟩
      rw [take_snoc hx, aged_snoc, if_neg (by omega)]
      exact paired_imp pf fun _ _ h => h.keep fun r' xs e => S _ _ e
  · rintro σ H' ⟨⟨v3, v4, v5, rfl⟩, st, hfr, kf, hkf, hlf, pf⟩
    refine ⟨hfr, ?_⟩
    have st2 : ∀ b o, H b = some o → upd H' L.hd (.dK kvs) b = some o := fun b o e => by
      by_cases hb : b = L.hd
      · subst hb; rw [hd] at e; rw [← e]; exact upd_same
      · rw [upd_ne hb]; exact st b o e hb
    refine ⟨_, rfl, _, rfl, L.ad, _, da, _, rfl, st2 _ _ hA, T.l_Addresses, T.a_Addresses_heard, few, ?_⟩
    refine k _ q (R.relay (dx := da) (fun b o e hb => by rw [upd_ne hb]; exact st2 b o e) upd_same ⟨kf, ?_, ?_⟩) (fun b o e m => ?_) hq
    · rw [upd_ne hqa.symm, upd_ne hqd.symm]; exact hkf
    · rw [hpl, List.take_of_length_le (by rw [List.length_reverse]; exact Nat.le_refl _), aged_rev] at pf
      refine paired_imp pf fun _ _ h => h.keep fun r xs e => ?_
      rw [upd_ne (fun z => ?_), upd_ne (ne_shp e hfr rfl)]
      · exact e
      · exact ne_shp e (st _ _ hA hda) rfl z
    · rw [upd_ne (fun z => m (.inr (.inl z)))]; exact st2 b o e
def sp_pass_second (K : PySem.W.Frag) (t : Adr) : Sp := sp1 fun x H Q => ∃ L b, x = .ref L.b ∧ Rep t L H (b, []) ∧ Inv b ∧ ∀ H' L', L'.b = L.b → Rep t L' H' (Ql46.second (b, [])) → Ext L L' H H' → Q .non H'
theorem ok_pass_second (T : Txt K mg t) : FnOk P w K mg base CX0 12 t.f_pass_second t.fd_pass_second ["bridge"] (sp_pass_second K t) := by
  refine T.F_pass_second.okQ sc_pass_second sp1_len (fun cdv A outer s H vs Q E hr h => ?_)
  obtain ⟨x0, rfl, h⟩ := h
  obtain ⟨L, b, rfl, R, iv, k⟩ := h
  rw [second_eq] at k
  have k : ∀ H' L', L'.b = L.b → Rep t L' H' (tabStep (itr holdTurn (itr waitTurn (itr ageTurn (changeStep (askStep (tellStep (b, [])))).1.ports.length (changeStep (askStep (tellStep (b, []))))).1.ports.length (itr ageTurn (changeStep (askStep (tellStep (b, [])))).1.ports.length (changeStep (askStep (tellStep (b, [])))))).1.ports.length (itr waitTurn (itr ageTurn (changeStep (askStep (tellStep (b, [])))).1.ports.length (changeStep (askStep (tellStep (b, []))))).1.ports.length (itr ageTurn (changeStep (askStep (tellStep (b, [])))).1.ports.length (changeStep (askStep (tellStep (b, [])))))))) → Ext L L' H H' → Q .non H' := k
  refine ⟨_, (qb_cons (qs_expr (q_call (ok_count_telling (K := K) T) (hr.mono (by decide)) rfl T.m_count_telling T.F_count_telling.kp T.b_count_telling .nil pass0 (qac (qv 0) qa_nil))) (qb_cons (qs_expr (q_call (ok_count_asking (K := K) T) (hr.mono (by decide)) rfl T.m_count_asking T.F_count_asking.kp T.b_count_asking .nil pass0 (qac (qv 0) qa_nil))) (qb_cons (qs_expr (q_call (ok_count_changing (K := K) T) (hr.mono (by decide)) rfl T.m_count_changing T.F_count_changing.kp T.b_count_changing .nil pass0 (qac (qv 0) qa_nil))) (qb_cons (qs_for PassesOwn.never rfl (qi_list (K := K) rfl (q_fld (K := K) rfl (qv 0) rfl)) (qg_name (i := 1) sc_pass_second.nd rfl (Or.inl rfl)) (qb_one (qs_expr (q_call (ok_count_age (K := K) T) (hr.mono (by decide)) rfl T.m_count_age T.F_count_age.kp T.b_count_age .nil pass0 (qac (qv 0) (qac (qv 1) qa_nil)))))) (qb_cons (qs_for PassesOwn.never rfl (qi_list (K := K) rfl (q_fld (K := K) rfl (qv 0) rfl)) (qg_name (i := 1) sc_pass_second.nd rfl (Or.inl rfl)) (qb_one (qs_expr (q_call (ok_count_wait (K := K) T) (hr.mono (by decide)) rfl T.m_count_wait T.F_count_wait.kp T.b_count_wait .nil pass0 (qac (qv 0) (qac (qv 1) qa_nil)))))) (qb_cons (qs_for PassesOwn.never rfl (qi_list (K := K) rfl (q_fld (K := K) rfl (qv 0) rfl)) (qg_name (i := 1) sc_pass_second.nd rfl (Or.inl rfl)) (qb_one (qs_expr (q_call (ok_count_hold (K := K) T) (hr.mono (by decide)) rfl T.m_count_hold T.F_count_hold.kp T.b_count_hold .nil pass0 (qac (qv 0) (qac (qv 1) qa_nil)))))) (qb_one (qs_expr (q_meth (q_fld (K := K) rfl (qv 0) rfl) T.l_Addresses T.M_Addresses_grow_older (ok_Addresses_grow_older (K := K) T) (hr.mono (by decide)) T.b_Addresses_grow_older .nil pass0 (qac (q_call (ok_address_seconds (K := K) T) (hr.mono (by decide)) rfl T.m_address_seconds T.F_address_seconds.kp T.b_address_seconds .nil pass0 (qac (qv 0) qa_nil)) qa_nil)))))))))), ?_⟩
  refine ⟨_, rfl, _, rfl, L, _, rfl, R, iv.good, by show 0 < 90000; decide, fun H1 R1 => ?_⟩
  have ok1 := (ns_tellStep (b, [])).ok.mono iv.good.few
  revert R1 k ok1
  generalize tellStep (b, []) = d1
  intro k R1 ok1
  have l1 := ok1.few
  rw [show ((b, []) : Ql46.Doing).2.length = 0 from rfl] at l1
  refine ⟨_, rfl, _, rfl, L, _, rfl, R1.rep, by omega, fun H2 R2 => ?_⟩
  have R2 := R1.trans R2
  have ok2 := ok1.trans (ns_askStep d1).ok
  revert R2 k ok2
  generalize askStep d1 = d2
  intro k R2 ok2
  refine ⟨_, rfl, _, rfl, L, _, rfl, R2.rep, fun H3 R3 => ?_⟩
  have R3 := R2.trans R3
  have ok3 := ok2.trans (ns_changeStep d2).ok
  revert R3 k ok3
  generalize changeStep d2 = d3
  intro k R3 ok3
  have l3 := ok3.few
  rw [show ((b, []) : Ql46.Doing).2.length = 0 from rfl] at l3
  have g3 := ok3.good iv.good
  refine r_ports T ageTurn ok_ageTurn R3.rep g3 (by omega) (fun i a H' d' E hi R' g' hz' hle kE => ⟨_, rfl, _, rfl, _, _, rfl, L, d', i, a, rfl, rfl, hi, R', g', by omega, kE⟩) fun v4 H4 R4 => ?_
  have R4 := R3.trans R4
  have ok4 := ok3.trans (Ok.itrG ok_ageTurn d3.1.ports.length d3 g3)
  have few3 := g3.few
  revert R4 k ok4
  generalize itr ageTurn d3.1.ports.length d3 = d4
  intro k R4 ok4
  have l4 := ok4.few
  rw [show ((b, []) : Ql46.Doing).2.length = 0 from rfl] at l4
  have g4 := ok4.good iv.good
  refine r_ports T waitTurn (fun k d _ => ok_waitTurn k d) R4.rep g4 (by omega) (fun i a H' d' E hi R' g' hz' hle kE => ⟨_, rfl, _, rfl, _, _, rfl, L, d', i, a, rfl, rfl, hi, R', g', by omega, kE⟩) fun v5 H5 R5 => ?_
  have R5 := R4.trans R5
  have ok5 := ok4.trans (Ok.itr ok_waitTurn d4.1.ports.length d4)
  have few4 := g4.few
  revert R5 k ok5
  generalize itr waitTurn d4.1.ports.length d4 = d5
  intro k R5 ok5
  have l5 := ok5.few
  rw [show ((b, []) : Ql46.Doing).2.length = 0 from rfl] at l5
  have g5 := ok5.good iv.good
  refine r_ports T holdTurn ok_holdTurn R5.rep g5 (by omega) (fun i a H' d' E hi R' g' hz' hle kE => ⟨_, rfl, _, rfl, _, _, rfl, L, d', i, a, rfl, rfl, hi, R', g', by omega, kE⟩) fun v6 H6 R6 => ?_
  have R6 := R5.trans R6
  have ok6 := ok5.trans (Ok.itrG ok_holdTurn d5.1.ports.length d5 g5)
  revert R6 k ok6
  generalize itr holdTurn d5.1.ports.length d5 = d6
  intro k R6 ok6
  have tk6 : TabOk d6.1 := iv.tab.of ok6.tab
  obtain ⟨dx6, tr6, hb6⟩ := R6.rep.br
  obtain ⟨da6, ha6⟩ := R6.rep.ad
  refine ⟨_, rfl, L.b, _, _, _, _, rfl, hb6.at_, T.l_Bridge, T.a_Bridge_addresses, g_Bridge_addresses, L.ad, _, _, rfl, ha6, x_Addresses_grow_older, _, rfl, _, rfl, L, d6, rfl, R6.rep, _, _, rfl, L, d6, (if d6.1.change = true then d6.1.delay else 300), rfl, rfl, R6.rep, tk6, fun H7 q R7 kp7 fq7 => ?_⟩
  exact k H7 { L with hd := q } rfl R7 (R6.ext.trans (ext_hd kp7 fq7))
def sp_br_second (K : PySem.W.Frag) (t : Adr) : Sp := sp1 fun x H Q => ∃ L b, x = .ref L.b ∧ Rep t L H (b, []) ∧ Inv b ∧ PostC t L H Q (Ql46.spec b .second)
theorem ok_br_second (T : Txt K mg t) : FnOk P w K mg base CX0 13 t.f_br_second t.fd_br_second ["bridge"] (sp_br_second K t) := by
  refine T.F_br_second.okQ sc_br_second sp1_len (fun cdv A outer s H vs Q E hr h => ?_)
  obtain ⟨x0, rfl, h⟩ := h
  obtain ⟨L, b, rfl, R, iv, k⟩ := h
  have k : PostC t L H Q (Ql46.done (Ql46.second (b, []))) := k
  refine ⟨_, (qb_cons (qs_expr (q_call (ok_pass_second (K := K) T) (hr.mono (by decide)) rfl T.m_pass_second T.F_pass_second.kp T.b_pass_second .nil pass0 (qac (qv 0) qa_nil))) (qb_one (qs_ret (q_call (ok_take_sent (K := K) T) (hr.mono (by decide)) rfl T.m_take_sent T.F_take_sent.kp T.b_take_sent .nil pass0 (qac (qv 0) qa_nil))))), ?_⟩
  refine ⟨_, rfl, _, rfl, L, b, rfl, R, iv, fun H' L' e R' x => ?_⟩
  exact r_done (by rw [e]; rfl) R' x (fits_of (fine_second iv) (Nat.zero_le _)) k
theorem r_told {L : Lay} {H H1 : Hp} {Q : VK} {b : Ql46.Bridge} {n : Int} {told : List Nat} (R : Rp t L H H1 (b, [])) (k : PostC t L H Q (b, ⟨n, [], told⟩)) {p : Addr} (hp : H1 p = none) : Q (.ref p) (upd H1 p (.lst (V.int n :: bts told))) := by
  have R1 := R.same (Same.new (o := .lst (V.int n :: bts told)) hp)
  refine k _ L p R1.rep R1.ext (R.ext.fresh hp) (R.rep.fresh hp) (upd_same.trans ?_)
  rw [bts_ints]
  rfl
def sp_br_port (K : PySem.W.Frag) (t : Adr) : Sp := sp2 fun x y H Q => ∃ L b, ∃ k : Nat, x = .ref L.b ∧ y = .int (k : Nat) ∧ Rep t L H (b, []) ∧ PostC t L H Q (Ql46.spec b (.port k))
theorem ok_br_port (T : Txt K mg t) : FnOk P w K mg base CX0 2 t.f_br_port t.fd_br_port ["bridge", "place"] (sp_br_port K t) := by
  refine T.F_br_port.okQ sc_br_port sp2_len (fun cdv A outer s H vs Q E hr h => ?_)
  obtain ⟨x0, x1, rfl, h⟩ := h
  obtain ⟨L, b, k0, rfl, rfl, R, k⟩ := h
  obtain ⟨dx, tr, hb⟩ := R.br
  have k : PostC t L H Q (if k0 < 1 ∨ b.ports.length < k0 then (b, Ql46.only (-1)) else (b, ⟨0, [], [(b.port k0).state, (b.port k0).root, (b.port k0).cost, (b.port k0).bridge, (b.port k0).port]⟩)) := k
  refine ⟨_, (qb_cons (qs_set (i := 2) sc_br_port.nd rfl (Or.inl rfl) (q_meth (qv 0) T.l_Bridge T.M_Bridge_port_at (ok_Bridge_port_at (K := K) T) (hr.mono (by decide)) T.b_Bridge_port_at .nil pass0 (qac (qv 1) qa_nil))) (qb_cons (qs_if (qt_cmp op_isN (qv 2) q_non (nomark _)) (qb_one (qs_ret (q_call0 (ok_refusal (K := K) T) (hr.mono (by decide)) rfl T.m_refusal T.F_refusal.kp T.b_refusal .nil pass0))) qb_nil) (qb_cons (qs_set (i := 3) sc_br_port.nd rfl (Or.inl rfl) (q_fld (K := K) rfl (qv 2) rfl)) (qb_one (qs_ret (q_lst (qac q_int (qac (q_fld (K := K) rfl (qv 2) rfl) (qac (q_fld (K := K) rfl (qv 3) rfl) (qac (q_fld (K := K) rfl (qv 3) rfl) (qac (q_fld (K := K) rfl (qv 3) rfl) (qac (q_fld (K := K) rfl (qv 3) rfl) qa_nil)))))))))))), ?_⟩
  refine ⟨_, rfl, L.b, _, _, rfl, hb.at_, x_Bridge_port_at, _, rfl, _, _, rfl, L, _, k0, rfl, rfl, R, fun hno => ?_, fun i a ei hi => ?_⟩
  · rw [R.len] at hno
    refine ⟨_, rfl, rfl, _, rfl, ?_⟩
    refine ifD (fun _ => ?_) (fun z => absurd rfl z)
    rw [if_pos hno] at k
    exact r_refuse R.rp k
  subst ei
  refine ⟨_, rfl, rfl, _, rfl, ?_⟩
  refine ifD (fun z => nomatch z) (fun _ => ?_)
  have hil := R.ilt hi
  dsimp only at hil
  rw [if_neg (by omega)] at k
  obtain ⟨dp, lr, wc, hp⟩ := R.po i a hi
  obtain ⟨dl, hl⟩ := hp.lead
  refine ⟨_, rfl, a, _, _, _, _, rfl, hp.at_, T.l_Port, T.a_Port_leader, g_Port_leader, ?_⟩
  refine ⟨_, rfl, a, _, _, _, _, rfl, hp.at_, T.l_Port, T.a_Port_state, g_Port_state, _, rfl, lr, _, _, _, _, rfl, hl, T.l_Leader, T.a_Leader_root, g_Leader_root, _, rfl, lr, _, _, _, _, rfl, hl, T.l_Leader, T.a_Leader_cost, g_Leader_cost,
    _, rfl, lr, _, _, _, _, rfl, hl, T.l_Leader, T.a_Leader_bridge, g_Leader_bridge, _, rfl, lr, _, _, _, _, rfl, hl, T.l_Leader, T.a_Leader_port, g_Leader_port, sz, fun p hp' => r_told R.rp k hp'⟩
def sp_br_root (K : PySem.W.Frag) (t : Adr) : Sp := sp1 fun x H Q => ∃ L b, x = .ref L.b ∧ Rep t L H (b, []) ∧ PostC t L H Q (Ql46.spec b .root)
theorem ok_br_root (T : Txt K mg t) : FnOk P w K mg base CX0 1 t.f_br_root t.fd_br_root ["bridge"] (sp_br_root K t) := by
  refine T.F_br_root.okQ sc_br_root sp1_len (fun cdv A outer s H vs Q E hr h => ?_)
  obtain ⟨x0, rfl, h⟩ := h
  obtain ⟨L, b, rfl, R, k⟩ := h
  obtain ⟨dx, tr, hb⟩ := R.br
  refine ⟨_, (qb_one (qs_ret (q_lst (qac q_int (qac (q_fld (K := K) rfl (qv 0) rfl) (qac (q_fld (K := K) rfl (qv 0) rfl) (qac (q_fld (K := K) rfl (qv 0) rfl) qa_nil))))))), ?_⟩
  exact ⟨_, rfl, L.b, _, _, _, _, rfl, hb.at_, T.l_Bridge, T.a_Bridge_root, g_Bridge_root, _, rfl, L.b, _, _, _, _, rfl, hb.at_, T.l_Bridge, T.a_Bridge_cost, g_Bridge_cost, _, rfl, L.b, _, _, _, _, rfl, hb.at_, T.l_Bridge, T.a_Bridge_root_port, g_Bridge_root_port, sz, fun p hp' => r_told (n := 0) (told := [b.root, b.cost, b.rootPort]) R.rp k hp'⟩
theorem find_spec (b : Ql46.Bridge) (a : Nat) : Ql46.spec b (.find a) = (b, ⟨(placeOf b.table a : Nat), [], []⟩) := by
  unfold Ql46.spec placeOf Ql46.only
  dsimp only
  split <;> rename_i e <;> rw [e] <;> rfl
def sp_br_find (K : PySem.W.Frag) (t : Adr) : Sp := sp2 fun x y H Q => ∃ L b, ∃ a : Nat, x = .ref L.b ∧ y = .int (a : Nat) ∧ Rep t L H (b, []) ∧ TabOk b ∧ PostC t L H Q (Ql46.spec b (.find a))
theorem ok_br_find (T : Txt K mg t) : FnOk P w K mg base CX0 2 t.f_br_find t.fd_br_find ["bridge", "address"] (sp_br_find K t) := by
  refine T.F_br_find.okQ sc_br_find sp2_len (fun cdv A outer s H vs Q E hr h => ?_)
  obtain ⟨x0, x1, rfl, h⟩ := h
  obtain ⟨L, b, a, rfl, rfl, R, tk, k⟩ := h
  obtain ⟨dx, tr, hb⟩ := R.br
  obtain ⟨da, ha⟩ := R.ad
  rw [find_spec] at k
  refine ⟨_, (qb_one (qs_ret (q_lst (qac (q_meth (q_fld (K := K) rfl (qv 0) rfl) T.l_Addresses T.M_Addresses_place_of (ok_Addresses_place_of (K := K) T) (hr.mono (by decide)) T.b_Addresses_place_of .nil pass0 (qac (qv 1) qa_nil)) qa_nil)))), ?_⟩
  refine ⟨_, rfl, L.b, _, _, _, _, rfl, hb.at_, T.l_Bridge, T.a_Bridge_addresses, g_Bridge_addresses, L.ad, _, _, rfl, ha, x_Addresses_place_of, _, rfl, _, _, rfl, L, _, a, rfl, rfl, R, tk, fun H1 S1 => ⟨sz, fun p hp' => ?_⟩⟩
  exact r_told (R.rp.same S1) k hp'
end
end Tb
local macro_rules | `(tactic| walk_at "ift") => `(tactic| (dsimp only; rw [if_pos rfl]))
local macro_rules | `(tactic| walk_at "iff") => `(tactic| (dsimp only; rw [if_neg Bool.false_ne_true]))
namespace Tb
open PySem PySem.Spec PyProof.Rows L2
section
variable {P : Program} {w : World} {K : PySem.W.Frag} {mg : Str → Option Value} {base : Heap} {t : Adr}
def sp_Bridge_init (K : PySem.W.Frag) (t : Adr) : Sp := sp3 fun x y z H Q => ∃ p dx, ∃ id n : Nat, x = .ref p ∧ y = .int (id : Nat) ∧ z = .int (n : Nat) ∧ n ≤ 16 ∧ H p = some (.ins t.C_Bridge dx []) ∧
  ∀ H' L, L.b = p → Rep t L H' (Ql46.begin_ id n, []) → (∀ b o, H b = some o → b ≠ p → H' b = some o ∧ ¬ Mu L b ∧ b ≠ L.pl) → Q .non H'
def Made (t : Adr) (H1 H' : Hp) (D : Addr) (i : Nat) : Prop := ∃ ps : List Addr, ps.length = i ∧ H' D = some (.lst (ps.map V.ref)) ∧ ps.Nodup ∧ (∀ j a, ps[j]? = some a → H1 a = none ∧ a ≠ D ∧ ∃ dp lr, H' a = some (.ins t.C_Port dp (poF (j + 1) Ql46.off lr 0)) ∧ LeadAt t H' lr 0 0 0 0) ∧ ∀ b o, H1 b = some o → H' b = some o
theorem ok_Bridge_init (T : Txt K mg t) : FnOk P w K mg base CX0 5 t.f_Bridge_init t.fd_Bridge_init ["self", "own_id", "how_many"] (sp_Bridge_init K t) := by
  refine T.F_Bridge_init.okQ sc_Bridge_init sp3_len (fun cdv A outer s H vs Q E hr h => ?_)
  obtain ⟨x0, x1, x2, rfl, h⟩ := h
  obtain ⟨p, dx, id, n, rfl, rfl, rfl, hn, hp, k⟩ := h
  refine ⟨_, (qb_cons (qs_fld (K := K) rfl (qv 0) (qv 1) rfl) (qb_cons (qs_fld (K := K) rfl (qv 0) (q_lc (own := [("place", 3)]) rfl sc_Bridge_init.nd (qi_range2 rfl T.n_range (qac q_int (qac (q_op op_add (qv 2) q_int) qa_nil))) (blkOk_by rfl) (fun _ _ _ _ _ => (qg_name (i := 3) sc_Bridge_init.nd rfl (Or.inl rfl))) (fun _ _ _ _ _ => qts_nil) (fun _ _ _ _ _ => (q_make T.K_Port (ok_Port_init (K := K) T) (hr.mono (by decide)) rfl T.m_Port T.b_Port_init .nil pass0 (qac (qv 3) qa_nil)))) rfl) (qb_cons (qs_fld (K := K) rfl (qv 0) (qv 1) rfl) (qb_cons (qs_fld (K := K) rfl (qv 0) q_int rfl) (qb_cons (qs_fld (K := K) rfl (qv 0) q_int rfl) (qb_cons (qs_fld (K := K) rfl (qv 0) (q_call0 (ok_standard_times (K := K) T) (hr.mono (by decide)) rfl T.m_standard_times T.F_standard_times.kp T.b_standard_times .nil pass0) rfl) (qb_cons (qs_fld (K := K) rfl (qv 0) q_bl rfl) (qb_cons (qs_fld (K := K) rfl (qv 0) q_bl rfl) (qb_cons (qs_fld (K := K) rfl (qv 0) q_int rfl) (qb_cons (qs_fld (K := K) rfl (qv 0) q_non rfl) (qb_cons (qs_fld (K := K) rfl (qv 0) q_non rfl) (qb_cons (qs_fld (K := K) rfl (qv 0) (q_make0 T.K_Addresses (ok_Addresses_init (K := K) T) (hr.mono (by decide)) rfl T.m_Addresses T.b_Addresses_init .nil pass0) rfl) (qb_one (qs_fld (K := K) rfl (qv 0) (q_lst qa_nil) rfl)))))))))))))), ?_⟩
  refine ⟨_, rfl, _, rfl, p, _, dx, _, rfl, hp, T.l_Bridge, T.a_Bridge_own_id, few, ?_⟩
  generalize hH1 : upd H p (.ins t.C_Bridge dx (putF "own_id" (.int (id : Nat)) [])) = H1
  have hp1 : H1 p = some (.ins t.C_Bridge dx (putF "own_id" (.int (id : Nat)) [])) := by rw [← hH1]; exact upd_same
  have kp1 : ∀ b o, H b = some o → b ≠ p → H1 b = some o := fun b o e hb => by rw [← hH1, upd_ne hb]; exact e
  have en : ((n : Int) + 1 - 1).toNat = n := by omega
  refine ⟨_, rfl, _, _, rfl, rfl, _, _, rfl, by omega, fun D hD => lc_range (fun i H' => Made t H1 H' D i) ?_ (fun i H' hi m => ?_) (fun H' m => ?_)⟩
  · refine ⟨[], rfl, upd_same, List.nodup_nil, fun j a e => ?_, fun b o e => ?_⟩
    · rw [List.getElem?_nil] at e; cases e
    · rw [upd_ne (ne_of_none e hD)]; exact e
  · obtain ⟨ps, hl, hDl, nd, hat, kp⟩ := m
    have ei : V.int (1 + (i : Int)) = V.int ((i + 1 : Nat) : Int) := by rw [Int.add_comm]; rfl
    rw [ei]
    refine ⟨rfl, yes_lc ⟨_, rfl, fun x dq n1 n2 ne => ⟨_, _, rfl, x, dq, i + 1, rfl, rfl, upd_same, fun H2 lr kp2 e2 l2 no2 => ⟨rfl, ps.map V.ref, kp2 D _ ?_ (ne_of_none hDl n1), ?_, ?_⟩⟩⟩⟩
    · rw [upd_ne (ne_of_none hDl n1), upd_ne (ne_of_none hDl n2)]; exact hDl
    · rw [List.length_map, hl]; exact Nat.lt_of_lt_of_le hi (by rw [en]; exact Nat.le_trans hn (by decide))
    · have k3 : ∀ b o, H' b = some o → H2 b = some o := fun b o e => kp2 b o (by rw [upd_ne (ne_of_none e n1), upd_ne (ne_of_none e n2)]; exact e) (ne_of_none e n1)
      have kD : ∀ b o, b ≠ D → H2 b = some o → upd H2 D (.lst (ps.map V.ref ++ [V.ref x])) b = some o := fun b o hb e => by rw [upd_ne hb]; exact e
      have h1x : H1 x = none := by
        cases e : H1 x with
        | none => rfl
        | some o => rw [kp x o e] at n1; cases n1
      have lD : ∀ l, LeadAt t H2 l 0 0 0 0 → LeadAt t (upd H2 D (.lst (ps.map V.ref ++ [V.ref x]))) l 0 0 0 0 := fun l ⟨dd, e⟩ => ⟨dd, kD _ _ (ne_shp e (k3 _ _ hDl) rfl) e⟩
      refine ⟨ps ++ [x], by rw [List.length_append, hl]; rfl, by rw [upd_same, List.map_append]; rfl, ?_, fun j a e => ?_, fun b o e => kD _ _ (ne_of_none e hD) (k3 _ _ (kp _ _ e))⟩
      · rw [List.nodup_append]
        refine ⟨nd, List.nodup_cons.mpr ⟨List.not_mem_nil, List.nodup_nil⟩, fun a ha b hb => ?_⟩
        rw [List.mem_singleton.mp hb]
        obtain ⟨j, hj⟩ := List.getElem?_of_mem ha
        obtain ⟨_, _, dp, l, hh, _⟩ := hat j a hj
        exact ne_of_none hh n1
      · by_cases hj : j < ps.length
        · rw [List.getElem?_append_left hj] at e
          obtain ⟨q1, q2, dp, l, hh, ll⟩ := hat j a e
          exact ⟨q1, q2, dp, l, kD _ _ q2 (k3 _ _ hh), lD _ (let ⟨dd, e⟩ := ll; ⟨dd, k3 _ _ e⟩)⟩
        · have hj2 : j = ps.length := by
            have := (List.getElem?_eq_some_iff.mp e).1
            rw [List.length_append] at this
            have : j < ps.length + 1 := this
            omega
          subst hj2
          rw [List.getElem?_append_right (Nat.le_refl _), Nat.sub_self] at e
          cases e
          rw [hl]
          exact ⟨h1x, (ne_of_none hDl n1).symm, dq, lr, kD _ _ (ne_of_none hDl n1).symm e2, lD _ l2⟩
  · rw [en] at m
    obtain ⟨ps, hl, hDl, nd, hat, kp⟩ := m
    have hp2 := kp _ _ hp1
    refine ⟨_, rfl, p, _, dx, _, rfl, hp2, T.l_Bridge, T.a_Bridge_ports, few, ?_⟩
    refine ⟨_, rfl, _, rfl, p, _, dx, _, rfl, upd_same, T.l_Bridge, T.a_Bridge_root, few, ?_⟩
    refine ⟨_, rfl, p, _, dx, _, rfl, upd_same, T.l_Bridge, T.a_Bridge_cost, few, ?_⟩
    refine ⟨_, rfl, p, _, dx, _, rfl, upd_same, T.l_Bridge, T.a_Bridge_root_port, few, ?_⟩
    rw [upd_upd, upd_upd, upd_upd]
    refine ⟨rfl, fun H4 tr s4 tm4 => ?_⟩
    refine ⟨_, rfl, p, _, dx, _, rfl, s4 _ _ upd_same, T.l_Bridge, T.a_Bridge_times, few, ?_⟩
    refine ⟨_, rfl, p, _, dx, _, rfl, upd_same, T.l_Bridge, T.a_Bridge_change_found, few, ?_⟩
    refine ⟨_, rfl, p, _, dx, _, rfl, upd_same, T.l_Bridge, T.a_Bridge_change_there, few, ?_⟩
    refine ⟨_, rfl, p, _, dx, _, rfl, upd_same, T.l_Bridge, T.a_Bridge_telling, few, ?_⟩
    refine ⟨_, rfl, p, _, dx, _, rfl, upd_same, T.l_Bridge, T.a_Bridge_asking, few, ?_⟩
    refine ⟨_, rfl, p, _, dx, _, rfl, upd_same, T.l_Bridge, T.a_Bridge_changing, few, ?_⟩
    rw [upd_upd, upd_upd, upd_upd, upd_upd, upd_upd]
    generalize hF : putF "changing" V.non _ = F11
    have k4 : ∀ b o, H' b = some o → b ≠ p → H4 b = some o := fun b o e hb => s4 _ _ (by rw [upd_ne hb]; exact e)
    refine fun xa da n1 n2 ne => ⟨_, rfl, xa, da, rfl, upd_same, fun q hq => ⟨rfl, ?_⟩⟩
    have hpx : p ≠ xa := fun z => by rw [← z, upd_same] at n1; cases n1
    have hpd : p ≠ da := fun z => by rw [← z, upd_same] at n2; cases n2
    have hqx : q ≠ xa := fun z => by rw [z, upd_same] at hq; cases hq
    have hqd : q ≠ da := fun z => by rw [z, upd_ne ne, upd_same] at hq; cases hq
    have hpq : p ≠ q := fun z => by rw [← z, upd_ne hpx, upd_ne hpd, upd_same] at hq; cases hq
    have n1' : H4 xa = none := by rw [upd_ne hpx.symm] at n1; exact n1
    have n2' : H4 da = none := by rw [upd_ne hpd.symm] at n2; exact n2
    have nq' : H4 q = none := by rw [upd_ne hqx, upd_ne hqd, upd_ne hpq.symm] at hq; exact hq
    generalize hH6 : upd (upd (upd (upd (upd H4 p (.ins t.C_Bridge dx F11)) da (.own xa)) xa (.ins t.C_Addresses da [])) q (.dK [])) xa (.ins t.C_Addresses da (fl_Addresses (.ref q))) = H6
    have k6 : ∀ b o, H4 b = some o → b ≠ p → H6 b = some o := fun b o e hb => by
      rw [← hH6, upd_ne (ne_of_none e n1'), upd_ne (ne_of_none e nq'), upd_ne (ne_of_none e n1'), upd_ne (ne_of_none e n2'), upd_ne hb]; exact e
    have h6p : H6 p = some (.ins t.C_Bridge dx F11) := by rw [← hH6, upd_ne hpx, upd_ne hpq, upd_ne hpx, upd_ne hpd]; exact upd_same
    have h6x : H6 xa = some (.ins t.C_Addresses da (fl_Addresses (.ref q))) := by rw [← hH6]; exact upd_same
    have h6q : H6 q = some (.dK []) := by rw [← hH6, upd_ne hqx]; exact upd_same
    refine ⟨_, rfl, p, _, dx, _, rfl, h6p, T.l_Bridge, T.a_Bridge_addresses, by rw [← hF]; exact few, ?_⟩
    refine ⟨sz, fun sl hsl => ?_⟩
    refine ⟨_, rfl, p, _, dx, _, rfl, Same.new hsl _ _ upd_same, T.l_Bridge, T.a_Bridge_sent, by rw [← hF]; exact few, ?_⟩
    have hps : p ≠ sl := fun z => by rw [← z, upd_same] at hsl; cases hsl
    have n6 : H6 sl = none := by rw [upd_ne hps.symm] at hsl; exact hsl
    let L : Lay := ⟨p, D, xa, q, sl, ps⟩
    have eF : putF "sent" (.ref sl) (putF "addresses" (.ref xa) F11) = brF L (Ql46.begin_ id n) tr := by rw [← hF]; rfl
    rw [eF]
    have kF : ∀ b o, H6 b = some o → b ≠ p → (upd (upd (upd H6 p (.ins t.C_Bridge dx (putF "addresses" (.ref xa) F11))) sl (.lst [])) p (.ins t.C_Bridge dx (brF L (Ql46.begin_ id n) tr))) b = some o := fun b o e hb => by
      rw [upd_ne hb, upd_ne (ne_of_none e n6), upd_ne hb]; exact e
    have kA : ∀ b o, H' b = some o → b ≠ p → (upd (upd (upd H6 p (.ins t.C_Bridge dx (putF "addresses" (.ref xa) F11))) sl (.lst [])) p (.ins t.C_Bridge dx (brF L (Ql46.begin_ id n) tr))) b = some o := fun b o e hb => kF _ _ (k6 _ _ (k4 _ _ e hb) hb) hb
    have hDp : D ≠ p := fun z => by rw [z, hp1] at hD; cases hD
    refine k _ L rfl ⟨⟨dx, tr, upd_same, ?_⟩, kA _ _ hDl hDp, nd, ?_, fun j a hj => ?_, ⟨da, kF _ _ h6x hpx.symm⟩, ⟨[], kF _ _ h6q hpq.symm, .nil⟩, ⟨[], ?_, .nil⟩, ?_⟩ fun b o e hb => ⟨kA _ _ (kp _ _ (kp1 _ _ e hb)) hb, ?_, ne_of_none (kp1 _ _ e hb) hD⟩
    · obtain ⟨dd, e⟩ := tm4
      exact ⟨dd, kF _ _ (k6 _ _ e (ne_shp e (s4 _ _ upd_same) rfl)) (ne_shp e (s4 _ _ upd_same) rfl)⟩
    · show ps.length = (List.replicate n Ql46.off).length
      rw [List.length_replicate]; exact hl
    · obtain ⟨q1, q2, dp, lr, h1, dl, h2⟩ := hat j a hj
      rw [port_off]
      have ha : a ≠ p := fun z => by rw [z, hp1] at q1; cases q1
      have hl' : lr ≠ p := ne_shp h2 hp2 rfl
      exact ⟨dp, lr, 0, kA _ _ h1 ha, ⟨dl, kA _ _ h2 hl'⟩, fun z => absurd rfl z⟩
    · rw [upd_ne hps.symm]; exact upd_same
    · exact ne_of_none (k6 _ _ (k4 _ _ hDl hDp) hDp) n6
    · have eb := kp _ _ (kp1 _ _ e hb)
      have e4 := k4 _ _ eb hb
      rintro (z | z | z | z | z)
      · exact hb z
      · exact ne_of_none e4 n1' z
      · exact ne_of_none e4 nq' z
      · exact ne_of_none (k6 _ _ e4 hb) n6 z
      · obtain ⟨j, hj⟩ := List.getElem?_of_mem z
        have := (hat j b hj).1
        rw [kp1 _ _ e hb] at this
        cases this
end
end Tb
local macro_rules | `(tactic| walk_at "ift") => `(tactic| (dsimp only; rw [if_pos rfl]))
local macro_rules | `(tactic| walk_at "iff") => `(tactic| (dsimp only; rw [if_neg Bool.false_ne_true]))
namespace Tb
open PySem PySem.Spec PyProof.Rows L2
def tKd (kvs : List (Int × Int)) (ty : TE) : TE := fun σ H Q => ty σ H fun y H1 => ∃ k v : Int, y = .int k ∧ kvs.lookup k = some v ∧ Q (.int v) H1
theorem kd_keys {P : Program} {w : World} : ∀ {es : List DictEntry} {kvs : List (Int × Int)}, KdEs es kvs → ∀ e ∈ es, ∃ k, (intKind P w).is k e.key = true ∧ e.hash = (intKind P w).hash k
  | [], [], _, _, h => by cases h
  | [], _ :: _, h, _, _ => nomatch h
  | _ :: _, [], h, _, _ => nomatch h
  | e :: es, (k, v) :: r, ⟨h1, ⟨t, h2⟩, _, h4⟩, x, hx => by
    cases hx with
    | head => exact ⟨k, by rw [h2]; exact intKind_is P w k t, h1⟩
    | tail _ hx => exact kd_keys h4 x hx
theorem kd_find {P : Program} {w : World} {k v : Int} : ∀ {es : List DictEntry} {kvs : List (Int × Int)}, KdEs es kvs → kvs.lookup k = some v → ∃ e t, es.find? (fun e => (intKind P w).is k e.key) = some e ∧ e.val = .int v t
  | [], [], _, h => by cases h
  | [], _ :: _, h, _ => nomatch h
  | _ :: _, [], h, _ => nomatch h
  | e :: es, (k', v') :: r, ⟨h1, ⟨t, h2⟩, ⟨u, h3⟩, h4⟩, h => by
    have his : (intKind P w).is k e.key = decide (k = k') := by rw [h2]; exact KeyKind.is_eq_decide (intKind_is P w k' t) k
    by_cases hk : k = k'
    · subst hk
      rw [List.lookup_cons, beq_self_eq_true] at h
      cases h
      exact ⟨e, u, by rw [List.find?_cons, his, decide_eq_true rfl], h3⟩
    · rw [List.lookup_cons, beq_eq_false_iff_ne.mpr hk] at h
      obtain ⟨e', t', q1, q2⟩ := kd_find (P := P) (w := w) h4 h
      exact ⟨e', t', by rw [List.find?_cons, his, decide_eq_false hk]; exact q1, q2⟩
section
variable {X : Cx} {x : Str} {e : Expr} {pos p : Pos} {ty : TE}
theorem q_kd {a : Addr} {kvs : List (Int × Int)} (hg : Gl X x) (hm : X.mg x = some (.ref a)) (hk : KDict X.K a kvs) (hi : QE X e ty) (hs : NoSl e) (hd : (x == ("__debug__" : Str)) = false := by decide) : QE X (.Subscript (.Name x p) e pos) (tKd kvs ty) := ⟨by
  intro pins s σ H Q I h
  refine subD_of PySem.F.slot_dict_getitem.lookup hs (thn (pe_gr hg hm hd pins s σ H (fun v H' => v = .ref a ∧ H' = H) I ⟨rfl, rfl⟩) fun u s1 ⟨v, H1, I1, rx, ev, eH⟩ => ?_)
  subst ev eH
  obtain rfl : u = Value.ref a := rx
  refine thn (hi.h pins s1 σ _ _ I1 h) fun iv s2 ⟨y, H2, I2, ry, k, v, ey, hl, q2⟩ => ?_
  subst ey
  obtain ⟨o, es, ep, h1, h2, h3, h4, h5⟩ := hk
  obtain ⟨e', t', f1, f2⟩ := kd_find (P := X.prog) (w := X.w) h4 hl
  have ho : s2.heap.get? a = some o := I2.kIn a o h1
  have hmap : s2.heap.MapOf (intKind X.prog X.w) a (findBy (intKind X.prog X.w).is es) := ⟨o, es, ep, ho, h2, h3, fun e' he' => kd_keys h4 e' (Array.mem_toList_iff.mpr he'), fun _ => rfl⟩
  obtain ⟨ti, rfl⟩ : ∃ ti, iv = Value.int k ti := ry
  have hv : findBy (intKind X.prog X.w).is es k = some (.int v t') := by
    unfold findBy
    rw [← Array.find?_toList, f1, Option.map_some, f2]
  exact ⟨hmap.typeIs, wpAny_getItem_of (intKind_is X.prog X.w k ti) hmap hv ⟨.int v, H2, I2.tok _, ⟨t', rfl⟩, q2⟩⟩⟩
end
section
variable {P : Program} {w : World} {K : PySem.W.Frag} {mg : Str → Option Value} {base : Heap} {t : Adr}
def lens : List (Int × Int) := [(0, 3), (1, 3), (2, 2), (3, 3), (4, 1), (5, 2), (6, 1), (7, 2)]
def sp_call_length (K : PySem.W.Frag) (t : Adr) : Sp := sp2 fun x y H Q => ∃ (a : Addr) (ns : List Int) (i : Nat) (p : Int) (v r : Nat), x = .ref a ∧ y = .int (i : Nat) ∧ SqL K H a (ns.map V.int) ∧ ns[i]? = some p ∧ lens.lookup p = some (v : Int) ∧
  ((p ≠ 3 ∧ r = v) ∨ (p = 3 ∧ ∃ n : Nat, ns[i + 2]? = some (n : Int) ∧ r = v + n)) ∧ Q (.int (r : Nat)) H
theorem at_map {ns : List Int} {i : Nat} {z : Int} (h : ns[i]? = some z) : atI (ns.map V.int) (i : Nat) = some (V.int z) := at_of rfl (by rw [List.getElem?_map, h]; rfl)
theorem int_eqB (i j : Int) : decide (V.int i = V.int j) = decide (i = j) := by
  by_cases h : i = j
  · rw [decide_eq_true h, decide_eq_true (congrArg V.int h)]
  · rw [decide_eq_false h, decide_eq_false (fun z => h (V.int.inj z))]
theorem ok_call_length (T : Txt K mg t) : FnOk P w K mg base CX0 1 t.f_call_length t.fd_call_length ["calls", "at"] (sp_call_length K t) := by
  refine T.F_call_length.okQ sc_call_length sp2_len (fun cdv A outer s H vs Q E hr h => ?_)
  obtain ⟨x0, x1, rfl, h⟩ := h
  obtain ⟨a, ns, i, p, v, r, rfl, rfl, ha, hp, hl, hr', k⟩ := h
  refine ⟨_, (qb_cons (qs_set (i := 2) sc_call_length.nd rfl (Or.inl rfl) (q_kd rfl T.m_CALL_LENGTHS T.d_CALL_LENGTHS (q_ix (k_ixl (K := K) rfl) (qv 0) (qv 1) (fun _ _ => rfl)) (fun _ _ => rfl))) (qb_cons (qs_if (qt_cmp op_eq (q_ix (k_ixl (K := K) rfl) (qv 0) (qv 1) (fun _ _ => rfl)) (q_gi rfl T.c_BR_FRAME) (nomark _)) (qb_one (qs_ret (q_op op_add (qv 2) (q_ix (k_ixl (K := K) rfl) (qv 0) (q_op op_add (qv 1) q_int) (fun _ _ => rfl))))) qb_nil) (qb_one (qs_ret (qv 2))))), ?_⟩
  refine ⟨_, rfl, _, rfl, a, _, _, _, rfl, rfl, ha, at_map hp, p, v, rfl, hl, ?_⟩
  refine ⟨_, rfl, _, rfl, a, _, _, _, rfl, rfl, ha, at_map hp, rfl, _, rfl, ?_⟩
  rw [int_eqB]
  refine ifD (fun c => ?_) (fun c => ?_)
  · obtain ⟨n, hn, rfl⟩ := (hr'.resolve_left (fun z => z.1 c)).2
    refine ⟨_, rfl, _, rfl, _, rfl, _, _, rfl, rfl, a, _, _, _, rfl, rfl, ha, at_map (i := i + 2) hn, _, _, rfl, rfl, k⟩
  · obtain rfl := (hr'.resolve_right (fun z => c z.1)).2
    exact ⟨_, rfl, k⟩
end
end Tb
namespace Tb
open Ql46 (Doing Bridge)
inductive CI : List Int → Ql46.Call → Prop
  | on (k c : Nat) : CI [1, (k : Int), (c : Int)] (.on k c)
  | off (k : Nat) : CI [2, (k : Int)] (.off k)
  | frame (k : Nat) (f : List Nat) : f.length ≤ 2048 → CI (3 :: (k : Int) :: (f.length : Int) :: Ql46Neutral.ints f) (.frame k f f.length)
  | second : CI [4] .second
  | port (k : Nat) : CI [5, (k : Int)] (.port k)
  | root : CI [6] .root
  | find (a : Nat) : CI [7, (a : Int)] (.find a)
def Is (l : List Int) (q : Ql46.Call) : Prop := (∃ id n : Nat, id < 2 ^ 64 ∧ l = [(0 : Int), (id : Int), (n : Int)] ∧ q = .begin_ id n) ∨ CI l q
theorem nat_of {z : Int} {b : Nat} (h : Ql46Neutral.natural z b = true) : ∃ k : Nat, z = (k : Nat) ∧ k < 2 ^ b := by
  unfold Ql46Neutral.natural at h
  rw [Bool.and_eq_true, decide_eq_true_eq, decide_eq_true_eq] at h
  refine ⟨z.toNat, by omega, ?_⟩
  have := h.2
  have e : z = (z.toNat : Int) := by omega
  rw [e] at this
  exact_mod_cast this
theorem ints_nats : ∀ {l : List Int}, (l.all fun z => Ql46Neutral.natural z 8) = true → Ql46Neutral.ints (Ql46Neutral.nats l) = l
  | [], _ => rfl
  | z :: l, h => by
    rw [List.all_cons, Bool.and_eq_true] at h
    obtain ⟨k, e, _⟩ := nat_of h.1
    have := ints_nats h.2
    unfold Ql46Neutral.ints Ql46Neutral.nats at this ⊢
    rw [List.map_cons, List.map_cons, this, e]
    rfl
theorem len1 {α : Type} {l : List α} (h : l.length = 1) : ∃ x, l = [x] := by
  match l, h with
  | [x], _ => exact ⟨x, rfl⟩
theorem len2 {α : Type} {l : List α} (h : l.length = 2) : ∃ x y, l = [x, y] := by
  match l, h with
  | [x, y], _ => exact ⟨x, y, rfl⟩
theorem len0 {α : Type} {l : List α} (h : l.length = 0) : l = [] := List.length_eq_zero_iff.mp h
theorem is_of {c : List (List Int)} (h : PyFlat.okCall PyQl46.shape c) (ha : Ql46Neutral.asked1 (PyQl46.whole c) = true) : ∃ q, Is (PyFlat.put1 c) q ∧ Ql46Neutral.callOf (PyQl46.whole c) = some q := by
  obtain ⟨p, a, xs, rfl, hs⟩ := h
  unfold PyQl46.shape at hs
  split at hs
  · subst p
    obtain ⟨e1, e2⟩ := Prod.mk.inj (Option.some.inj hs)
    obtain ⟨x, y, rfl⟩ := len2 e1.symm
    obtain rfl := len0 e2.symm
    have ha : (Ql46Neutral.natural x 64 && Ql46Neutral.natural y 32) = true := ha
    rw [Bool.and_eq_true] at ha
    obtain ⟨k, rfl, h1⟩ := nat_of ha.1
    obtain ⟨n, rfl, h2⟩ := nat_of ha.2
    exact ⟨.begin_ k n, .inl ⟨k, n, h1, rfl, rfl⟩, rfl⟩
  split at hs
  · subst p
    obtain ⟨e1, e2⟩ := Prod.mk.inj (Option.some.inj hs)
    obtain ⟨x, y, rfl⟩ := len2 e1.symm
    obtain rfl := len0 e2.symm
    have ha : (Ql46Neutral.natural x 32 && Ql46Neutral.natural y 32) = true := ha
    rw [Bool.and_eq_true] at ha
    obtain ⟨k, rfl, h1⟩ := nat_of ha.1
    obtain ⟨n, rfl, h2⟩ := nat_of ha.2
    exact ⟨.on k n, .inr (.on k n), rfl⟩
  split at hs
  · subst p
    obtain ⟨e1, e2⟩ := Prod.mk.inj (Option.some.inj hs)
    obtain ⟨x, rfl⟩ := len1 e1.symm
    obtain rfl := len0 e2.symm
    have ha : Ql46Neutral.natural x 32 = true := ha
    obtain ⟨k, rfl, h1⟩ := nat_of ha
    exact ⟨.off k, .inr (.off k), rfl⟩
  split at hs
  · subst p
    obtain ⟨e1, e2⟩ := Prod.mk.inj (Option.some.inj hs)
    obtain ⟨x, rfl⟩ := len1 e1.symm
    obtain ⟨f, rfl⟩ := len1 e2.symm
    have ha : (Ql46Neutral.natural x 32 && (Ql46Neutral.natural (f.length : Int) 32 && (f.all (fun (z : Int) => Ql46Neutral.natural z 8) && Ql46Neutral.long f (f.length : Int) 0 2048))) = true := ha
    rw [Bool.and_eq_true, Bool.and_eq_true, Bool.and_eq_true] at ha
    obtain ⟨k, rfl, h1⟩ := nat_of ha.1
    have hl : f.length ≤ 2048 := by
      have := ha.2.2.2
      unfold Ql46Neutral.long at this
      rw [decide_eq_true_eq] at this
      split at this <;> omega
    have en : (Ql46Neutral.nats f).length = f.length := by unfold Ql46Neutral.nats; rw [List.length_map]
    have ei := ints_nats ha.2.2.1
    refine ⟨.frame k (Ql46Neutral.nats f) f.length, .inr ?_, rfl⟩
    have := CI.frame k (Ql46Neutral.nats f) (by rw [en]; exact hl)
    rw [en, ei] at this
    have e3 : PyFlat.put1 [[3, (k : Int)], f] = 3 :: (k : Int) :: (f.length : Int) :: f := by
      show 3 :: (k : Int) :: ((f.length : Int) :: f ++ []) = _
      rw [List.append_nil]
    rw [e3]; exact this
  split at hs
  · subst p
    obtain ⟨e1, e2⟩ := Prod.mk.inj (Option.some.inj hs)
    obtain rfl := len0 e1.symm
    obtain rfl := len0 e2.symm
    exact ⟨.second, .inr .second, rfl⟩
  split at hs
  · subst p
    obtain ⟨e1, e2⟩ := Prod.mk.inj (Option.some.inj hs)
    obtain ⟨x, rfl⟩ := len1 e1.symm
    obtain rfl := len0 e2.symm
    have ha : Ql46Neutral.natural x 32 = true := ha
    obtain ⟨k, rfl, h1⟩ := nat_of ha
    exact ⟨.port k, .inr (.port k), rfl⟩
  split at hs
  · subst p
    obtain ⟨e1, e2⟩ := Prod.mk.inj (Option.some.inj hs)
    obtain rfl := len0 e1.symm
    obtain rfl := len0 e2.symm
    exact ⟨.root, .inr .root, rfl⟩
  split at hs
  · subst p
    obtain ⟨e1, e2⟩ := Prod.mk.inj (Option.some.inj hs)
    obtain ⟨x, rfl⟩ := len1 e1.symm
    obtain rfl := len0 e2.symm
    have ha : Ql46Neutral.natural x 64 = true := ha
    obtain ⟨k, rfl, h1⟩ := nat_of ha
    exact ⟨.find k, .inr (.find k), rfl⟩
  · cases hs
theorem step_eq {c : List (List Int)} {q : Ql46.Call} (h : Ql46Neutral.callOf c = some q) (b : Bridge) : Ql46Neutral.step b c = ((Ql46.spec b q).1, ansI (Ql46.spec b q).2) := by
  unfold Ql46Neutral.step
  rw [h]
  rfl
def due (b : Bridge) (cs : List (List (List Int))) : List Int := PyFlat.told (PyFlat.played Ql46Neutral.step b (cs.map PyQl46.whole))
theorem due_cons {c : List (List Int)} {q : Ql46.Call} (h : Ql46Neutral.callOf (PyQl46.whole c) = some q) (b : Bridge) (cs : List (List (List Int))) :
    due b (c :: cs) = ((ansI (Ql46.spec b q).2).length : Int) :: (ansI (Ql46.spec b q).2 ++ due (Ql46.spec b q).1 cs) := by
  unfold due
  rw [List.map_cons]
  show PyFlat.told ((Ql46Neutral.step b (PyQl46.whole c)).2 :: PyFlat.played Ql46Neutral.step (Ql46Neutral.step b (PyQl46.whole c)).1 (cs.map PyQl46.whole)) = _
  rw [step_eq h]
  rfl
theorem asked_of {ns : List Int} (h : PyQl46.answers_asked ns = true) : ∃ cs : List (List (List Int)), ns = PyFlat.put cs ∧ cs.length ≤ 1000 ∧ (∀ c ∈ cs, PyFlat.okCall PyQl46.shape c ∧ Ql46Neutral.asked1 (PyQl46.whole c) = true) ∧
    PyQl46.answers ns = due Ql46Neutral.start cs ∧ ∃ c cs', cs = c :: cs' ∧ Ql46Neutral.begins (PyQl46.whole c) = true := by
  unfold PyQl46.answers_asked at h
  cases e : PyFlat.calls PyQl46.shape ns.length ns with
  | none =>
    unfold PyQl46.calls at h
    rw [e] at h
    cases h
  | some cs =>
    have ec : PyQl46.calls ns = some (cs.map PyQl46.whole) := by unfold PyQl46.calls; rw [e]
    rw [ec] at h
    dsimp only at h
    rw [Bool.and_eq_true] at h
    obtain ⟨h1, h2⟩ := h
    obtain ⟨p1, p2⟩ := PyFlat.put_calls _ _ _ e
    unfold Ql46Neutral.asked at h2
    rw [Bool.and_eq_true, List.all_eq_true] at h2
    refine ⟨cs, p1, ?_, fun c hc => ⟨p2 c hc, h2.1 _ (List.mem_map_of_mem hc)⟩, ?_, ?_⟩
    · unfold PyFlat.atMost at h1
      rw [decide_eq_true_eq, List.length_map] at h1
      exact h1
    · unfold PyQl46.answers due
      rw [ec]
    · cases cs with
      | nil => exact absurd h2.2 (by decide)
      | cons c cs' => exact ⟨c, cs', rfl, h2.2⟩
end Tb
local macro_rules | `(tactic| walk_at "ift") => `(tactic| (dsimp only; rw [if_pos rfl]))
local macro_rules | `(tactic| walk_at "iff") => `(tactic| (dsimp only; rw [if_neg Bool.false_ne_true]))
namespace Tb
open PySem PySem.Spec PyProof.Rows L2
theorem PostC.same {t : Adr} {L : Lay} {H H1 : Hp} {Q : VK} {r : Ql46.Bridge × Ql46.Ans} (k : PostC t L H Q r) (s : Same H H1) : PostC t L H1 Q r :=
  fun H' L' p R x f m e => k H' L' p R ⟨x.b, x.pl, fun a o h mu => x.kp a o (s a o h) mu⟩ (fun o h => f o (s p o h)) m e
theorem ints_get {l : List Nat} {i : Nat} : ((Ql46Neutral.ints l).map V.int) = bts l := (bts_ints l).symm
section
variable {P : Program} {w : World} {K : PySem.W.Frag} {mg : Str → Option Value} {base : Heap} {t : Adr}
def sp_answer_call (K : PySem.W.Frag) (t : Adr) : Sp := sp2 fun x y H Q => ∃ L b q l c, x = .ref L.b ∧ y = .ref q ∧ H q = some (.lst ((l : List Int).map V.int)) ∧ ¬ Mu L q ∧ CI l c ∧ Rep t L H (b, []) ∧ Inv b ∧ PostC t L H Q (Ql46.spec b c)
theorem ok_answer_call (T : Txt K mg t) : FnOk P w K mg base CX0 14 t.f_answer_call t.fd_answer_call ["bridge", "call"] (sp_answer_call K t) := by
  refine T.F_answer_call.okQ sc_answer_call sp2_len (fun cdv A outer s H vs Q E hr h => ?_)
  obtain ⟨x0, x1, rfl, h⟩ := h
  obtain ⟨L, b, q, l, c, rfl, rfl, hq, hm, ci, R, iv, k⟩ := h
  have st : Start t L H b := ⟨R, iv.good, iv.tab⟩
  refine ⟨_, (qb_cons (qs_if (qt_cmp op_eq (q_ix (k_ixl (K := K) rfl) (qv 1) q_int (fun _ _ => rfl)) (q_gi rfl T.c_BR_ON) (nomark _)) (qb_one (qs_ret (q_call (ok_br_on (K := K) T) (hr.mono (by decide)) rfl T.m_br_on T.F_br_on.kp T.b_br_on .nil pass0 (qac (qv 0) (qac (q_ix (k_ixl (K := K) rfl) (qv 1) q_int (fun _ _ => rfl)) (qac (q_ix (k_ixl (K := K) rfl) (qv 1) q_int (fun _ _ => rfl)) qa_nil)))))) qb_nil) (qb_cons (qs_if (qt_cmp op_eq (q_ix (k_ixl (K := K) rfl) (qv 1) q_int (fun _ _ => rfl)) (q_gi rfl T.c_BR_OFF) (nomark _)) (qb_one (qs_ret (q_call (ok_br_off (K := K) T) (hr.mono (by decide)) rfl T.m_br_off T.F_br_off.kp T.b_br_off .nil pass0 (qac (qv 0) (qac (q_ix (k_ixl (K := K) rfl) (qv 1) q_int (fun _ _ => rfl)) qa_nil))))) qb_nil) (qb_cons (qs_if (qt_cmp op_eq (q_ix (k_ixl (K := K) rfl) (qv 1) q_int (fun _ _ => rfl)) (q_gi rfl T.c_BR_FRAME) (nomark _)) (qb_one (qs_ret (q_call (ok_br_frame (K := K) T) (hr.mono (by decide)) rfl T.m_br_frame T.F_br_frame.kp T.b_br_frame .nil pass0 (qac (qv 0) (qac (q_ix (k_ixl (K := K) rfl) (qv 1) q_int (fun _ _ => rfl)) (qac (q_slice (k_sl (K := K) rfl) (qv 1) (qo_some q_int) qo_none) qa_nil)))))) qb_nil) (qb_cons (qs_if (qt_cmp op_eq (q_ix (k_ixl (K := K) rfl) (qv 1) q_int (fun _ _ => rfl)) (q_gi rfl T.c_BR_SECOND) (nomark _)) (qb_one (qs_ret (q_call (ok_br_second (K := K) T) (hr.mono (by decide)) rfl T.m_br_second T.F_br_second.kp T.b_br_second .nil pass0 (qac (qv 0) qa_nil)))) qb_nil) (qb_cons (qs_if (qt_cmp op_eq (q_ix (k_ixl (K := K) rfl) (qv 1) q_int (fun _ _ => rfl)) (q_gi rfl T.c_BR_PORT) (nomark _)) (qb_one (qs_ret (q_call (ok_br_port (K := K) T) (hr.mono (by decide)) rfl T.m_br_port T.F_br_port.kp T.b_br_port .nil pass0 (qac (qv 0) (qac (q_ix (k_ixl (K := K) rfl) (qv 1) q_int (fun _ _ => rfl)) qa_nil))))) qb_nil) (qb_cons (qs_if (qt_cmp op_eq (q_ix (k_ixl (K := K) rfl) (qv 1) q_int (fun _ _ => rfl)) (q_gi rfl T.c_BR_ROOT) (nomark _)) (qb_one (qs_ret (q_call (ok_br_root (K := K) T) (hr.mono (by decide)) rfl T.m_br_root T.F_br_root.kp T.b_br_root .nil pass0 (qac (qv 0) qa_nil)))) qb_nil) (qb_one (qs_ret (q_call (ok_br_find (K := K) T) (hr.mono (by decide)) rfl T.m_br_find T.F_br_find.kp T.b_br_find .nil pass0 (qac (qv 0) (qac (q_ix (k_ixl (K := K) rfl) (qv 1) q_int (fun _ _ => rfl)) qa_nil))))))))))), ?_⟩
  cases ci with
  | on k0 c0 =>
    refine ⟨_, rfl, q, _, _, _, rfl, rfl, SqL.of hq, at_map (i := 0) rfl, rfl, _, rfl, ?_⟩
    rw [int_eqB]
    refine ifD (fun c => ?_) (fun c => absurd rfl c)
    refine ⟨_, rfl, _, rfl, q, _, _, _, rfl, rfl, SqL.of hq, at_map (i := 1) rfl, _, rfl, q, _, _, _, rfl, rfl, SqL.of hq, at_map (i := 2) rfl, _, _, _, rfl, L, b, k0, c0, rfl, rfl, rfl, st, ?_, k⟩
    exact fits_of (fine_on iv k0 c0) (Nat.zero_le _)
  | off k0 =>
    refine ⟨_, rfl, q, _, _, _, rfl, rfl, SqL.of hq, at_map (i := 0) rfl, rfl, _, rfl, ?_⟩
    rw [int_eqB]
    refine ifD (fun c => absurd c (by decide)) (fun c => ?_)
    refine ⟨_, rfl, q, _, _, _, rfl, rfl, SqL.of hq, at_map (i := 0) rfl, rfl, _, rfl, ?_⟩
    rw [int_eqB]
    refine ifD (fun c => ?_) (fun c => absurd rfl c)
    refine ⟨_, rfl, _, rfl, q, _, _, _, rfl, rfl, SqL.of hq, at_map (i := 1) rfl, _, _, rfl, L, b, k0, rfl, rfl, st, ?_, k⟩
    exact fits_of (fine_off iv k0) (Nat.zero_le _)
  | frame k0 f hl =>
    refine ⟨_, rfl, q, _, _, _, rfl, rfl, SqL.of hq, at_map (i := 0) rfl, rfl, _, rfl, ?_⟩
    rw [int_eqB]
    refine ifD (fun c => absurd c (by decide)) (fun c => ?_)
    refine ⟨_, rfl, q, _, _, _, rfl, rfl, SqL.of hq, at_map (i := 0) rfl, rfl, _, rfl, ?_⟩
    rw [int_eqB]
    refine ifD (fun c => absurd c (by decide)) (fun c => ?_)
    refine ⟨_, rfl, q, _, _, _, rfl, rfl, SqL.of hq, at_map (i := 0) rfl, rfl, _, rfl, ?_⟩
    rw [int_eqB]
    refine ifD (fun c => ?_) (fun c => absurd rfl c)
    refine ⟨_, rfl, _, rfl, q, _, _, _, rfl, rfl, SqL.of hq, at_map (i := 1) rfl, _, rfl, ?_⟩
    refine ⟨_, rfl, q, _, rfl, SqL.of hq, fun p hp => ?_⟩
    have S := Same.new (o := .lst (cutV (((3 : Int) :: (k0 : Int) :: (f.length : Int) :: Ql46Neutral.ints f).map V.int) (some 3) none)) hp
    have ec : cutV (((3 : Int) :: (k0 : Int) :: (f.length : Int) :: Ql46Neutral.ints f).map V.int) (some 3) none = bts f := (cut_from _ 3).trans (ints_get (i := 0))
    refine ⟨_, _, _, rfl, L, b, p, f, k0, rfl, rfl, rfl, by rw [ec]; exact upd_same, fun z => ?_, by omega, ⟨(R.rp.same S).rep, iv.good, iv.tab⟩, ?_, k.same S⟩
    · obtain ⟨as, e, _⟩ := R.sent
      rw [z, e] at hp; cases hp
    · exact fun hk => fits_of (fine_frame iv hk f) (by omega)
  | second =>
    refine ⟨_, rfl, q, _, _, _, rfl, rfl, SqL.of hq, at_map (i := 0) rfl, rfl, _, rfl, ?_⟩
    rw [int_eqB]
    refine ifD (fun c => absurd c (by decide)) (fun c => ?_)
    refine ⟨_, rfl, q, _, _, _, rfl, rfl, SqL.of hq, at_map (i := 0) rfl, rfl, _, rfl, ?_⟩
    rw [int_eqB]
    refine ifD (fun c => absurd c (by decide)) (fun c => ?_)
    refine ⟨_, rfl, q, _, _, _, rfl, rfl, SqL.of hq, at_map (i := 0) rfl, rfl, _, rfl, ?_⟩
    rw [int_eqB]
    refine ifD (fun c => absurd c (by decide)) (fun c => ?_)
    refine ⟨_, rfl, q, _, _, _, rfl, rfl, SqL.of hq, at_map (i := 0) rfl, rfl, _, rfl, ?_⟩
    rw [int_eqB]
    refine ifD (fun c => ?_) (fun c => absurd rfl c)
    exact ⟨_, rfl, _, rfl, L, b, rfl, R, iv, k⟩
  | port k0 =>
    refine ⟨_, rfl, q, _, _, _, rfl, rfl, SqL.of hq, at_map (i := 0) rfl, rfl, _, rfl, ?_⟩
    rw [int_eqB]
    refine ifD (fun c => absurd c (by decide)) (fun c => ?_)
    refine ⟨_, rfl, q, _, _, _, rfl, rfl, SqL.of hq, at_map (i := 0) rfl, rfl, _, rfl, ?_⟩
    rw [int_eqB]
    refine ifD (fun c => absurd c (by decide)) (fun c => ?_)
    refine ⟨_, rfl, q, _, _, _, rfl, rfl, SqL.of hq, at_map (i := 0) rfl, rfl, _, rfl, ?_⟩
    rw [int_eqB]
    refine ifD (fun c => absurd c (by decide)) (fun c => ?_)
    refine ⟨_, rfl, q, _, _, _, rfl, rfl, SqL.of hq, at_map (i := 0) rfl, rfl, _, rfl, ?_⟩
    rw [int_eqB]
    refine ifD (fun c => absurd c (by decide)) (fun c => ?_)
    refine ⟨_, rfl, q, _, _, _, rfl, rfl, SqL.of hq, at_map (i := 0) rfl, rfl, _, rfl, ?_⟩
    rw [int_eqB]
    refine ifD (fun c => ?_) (fun c => absurd rfl c)
    exact ⟨_, rfl, _, rfl, q, _, _, _, rfl, rfl, SqL.of hq, at_map (i := 1) rfl, _, _, rfl, L, b, k0, rfl, rfl, R, k⟩
  | root =>
    refine ⟨_, rfl, q, _, _, _, rfl, rfl, SqL.of hq, at_map (i := 0) rfl, rfl, _, rfl, ?_⟩
    rw [int_eqB]
    refine ifD (fun c => absurd c (by decide)) (fun c => ?_)
    refine ⟨_, rfl, q, _, _, _, rfl, rfl, SqL.of hq, at_map (i := 0) rfl, rfl, _, rfl, ?_⟩
    rw [int_eqB]
    refine ifD (fun c => absurd c (by decide)) (fun c => ?_)
    refine ⟨_, rfl, q, _, _, _, rfl, rfl, SqL.of hq, at_map (i := 0) rfl, rfl, _, rfl, ?_⟩
    rw [int_eqB]
    refine ifD (fun c => absurd c (by decide)) (fun c => ?_)
    refine ⟨_, rfl, q, _, _, _, rfl, rfl, SqL.of hq, at_map (i := 0) rfl, rfl, _, rfl, ?_⟩
    rw [int_eqB]
    refine ifD (fun c => absurd c (by decide)) (fun c => ?_)
    refine ⟨_, rfl, q, _, _, _, rfl, rfl, SqL.of hq, at_map (i := 0) rfl, rfl, _, rfl, ?_⟩
    rw [int_eqB]
    refine ifD (fun c => absurd c (by decide)) (fun c => ?_)
    refine ⟨_, rfl, q, _, _, _, rfl, rfl, SqL.of hq, at_map (i := 0) rfl, rfl, _, rfl, ?_⟩
    rw [int_eqB]
    refine ifD (fun c => ?_) (fun c => absurd rfl c)
    exact ⟨_, rfl, _, rfl, L, b, rfl, R, k⟩
  | find a =>
    refine ⟨_, rfl, q, _, _, _, rfl, rfl, SqL.of hq, at_map (i := 0) rfl, rfl, _, rfl, ?_⟩
    rw [int_eqB]
    refine ifD (fun c => absurd c (by decide)) (fun c => ?_)
    refine ⟨_, rfl, q, _, _, _, rfl, rfl, SqL.of hq, at_map (i := 0) rfl, rfl, _, rfl, ?_⟩
    rw [int_eqB]
    refine ifD (fun c => absurd c (by decide)) (fun c => ?_)
    refine ⟨_, rfl, q, _, _, _, rfl, rfl, SqL.of hq, at_map (i := 0) rfl, rfl, _, rfl, ?_⟩
    rw [int_eqB]
    refine ifD (fun c => absurd c (by decide)) (fun c => ?_)
    refine ⟨_, rfl, q, _, _, _, rfl, rfl, SqL.of hq, at_map (i := 0) rfl, rfl, _, rfl, ?_⟩
    rw [int_eqB]
    refine ifD (fun c => absurd c (by decide)) (fun c => ?_)
    refine ⟨_, rfl, q, _, _, _, rfl, rfl, SqL.of hq, at_map (i := 0) rfl, rfl, _, rfl, ?_⟩
    rw [int_eqB]
    refine ifD (fun c => absurd c (by decide)) (fun c => ?_)
    refine ⟨_, rfl, q, _, _, _, rfl, rfl, SqL.of hq, at_map (i := 0) rfl, rfl, _, rfl, ?_⟩
    rw [int_eqB]
    refine ifD (fun c => absurd c (by decide)) (fun c => ?_)
    exact ⟨_, rfl, _, rfl, q, _, _, _, rfl, rfl, SqL.of hq, at_map (i := 1) rfl, _, _, rfl, L, b, a, rfl, rfl, R, iv.tab, k⟩
end
end Tb
local macro_rules | `(tactic| walk_at "ift") => `(tactic| (dsimp only; rw [if_pos rfl]))
local macro_rules | `(tactic| walk_at "iff") => `(tactic| (dsimp only; rw [if_neg Bool.false_ne_true]))
namespace Tb
open PySem PySem.Spec PyProof.Rows L2
def Al (c : Option HO) (a : Addr) (H : Hp) : Prop := ∀ u, c = some u → H a = some u
theorem Al.same {c : Option HO} {a : Addr} {H H' : Hp} (h : Al c a H) (s : Same H H') : Al c a H' := fun u e => s _ _ (h u e)
theorem Al.ext {c : Option HO} {a : Addr} {H H' : Hp} {L L' : Lay} (h : Al c a H) (m : c ≠ none → ¬ Mu L a) (x : Ext L L' H H') : Al c a H' ∧ (c ≠ none → ¬ Mu L' a) := by
  cases c with
  | none => exact ⟨(fun u e => by cases e), fun z => absurd rfl z⟩
  | some u =>
    have := x.kp a u (h u rfl) (m (by intro z; cases z))
    exact ⟨fun v e => by cases e; exact this.1, fun _ => this.2⟩
theorem SqL.al {K : PySem.W.Frag} {H : Hp} {a : Addr} {xs : List V} (h : SqL K H a xs) : ∃ c : Option HO, Al c a H ∧ ∀ H', Al c a H' → SqL K H' a xs := by
  rcases h with (h | ⟨o, h⟩) | h
  · exact ⟨some (.lst xs), fun u e => by cases e; exact h, fun H' k => .inl (.inl (k _ rfl))⟩
  · exact ⟨some (.frz o (.lst xs)), fun u e => by cases e; exact h, fun H' k => .inl (.inr ⟨o, k _ rfl⟩)⟩
  · exact ⟨none, (fun u e => by cases e), fun H' _ => .inr h⟩
theorem Rep.put {t : Adr} {L : Lay} {H : Hp} {b : Ql46.Bridge} (R : Rep t L H (b, [])) {G : Addr} {xs ys : List V} (hG : H G = some (.lst xs)) (hm : ¬ Mu L G) (hp : G ≠ L.pl) : Rep t L (upd H G (.lst ys)) (b, []) := by
  have ks : ∀ c o, H c = some o → Nat.beq (shp o) 100 = false → upd H G (.lst ys) c = some o := fun c o e hs => by
    rw [upd_ne (ne_shp e hG hs)]; exact e
  refine ⟨?_, by rw [upd_ne hp.symm]; exact R.pl, R.nd, R.len, fun j c hj => ?_, ?_, ?_, ?_, R.ne⟩
  · obtain ⟨dx, tr, h⟩ := R.br
    exact ⟨dx, tr, ks _ _ h.at_ rfl, let ⟨dd, e⟩ := h.times; ⟨dd, ks _ _ e rfl⟩⟩
  · obtain ⟨dx', lr', wc', h'⟩ := R.po j c hj
    exact ⟨dx', lr', wc', ks _ _ h'.at_ rfl, let ⟨dd, e⟩ := h'.lead; ⟨dd, ks _ _ e rfl⟩, h'.way⟩
  · obtain ⟨dd, e⟩ := R.ad
    exact ⟨dd, ks _ _ e rfl⟩
  · exact R.tab.keep (fun _ e => ks _ _ e rfl) (fun _ _ e => ks _ _ e rfl)
  · obtain ⟨as, e, pr⟩ := R.sent
    cases pr
    exact ⟨[], by rw [upd_ne (fun z => hm (.inr (.inr (.inr (.inl z.symm)))))]; exact e, .nil⟩
theorem begins_of {x : List (List Int)} (h : Ql46Neutral.begins x = true) : ∃ id n : Int, x = [[0, id, n]] ∧ 1 ≤ n ∧ n ≤ 16 := by
  unfold Ql46Neutral.begins at h
  split at h
  · rename_i id n
    unfold NeutralIO.within at h
    rw [Bool.and_eq_true, decide_eq_true_eq, decide_eq_true_eq] at h
    exact ⟨id, n, rfl, h.1, h.2⟩
  · cases h
theorem begins_call {x : List (List Int)} {q : Ql46.Call} (h : Ql46Neutral.begins x = true) (hq : Ql46Neutral.callOf x = some q) : ∃ id n : Nat, q = .begin_ id n ∧ 1 ≤ n ∧ n ≤ 16 := by
  obtain ⟨id, n, rfl, h1, h2⟩ := begins_of h
  have e : some (Ql46.Call.begin_ id.toNat n.toNat) = some q := hq
  exact ⟨id.toNat, n.toNat, (Option.some.inj e).symm, by omega, by omega⟩
theorem ci_no {l : List Int} {q : Ql46.Call} (ci : CI l q) : ¬ ∃ id n : Nat, q = .begin_ id n ∧ 1 ≤ n ∧ n ≤ 16 := fun ⟨id, n, e, _⟩ => by
  cases ci <;> cases e
def LI (t : Adr) (a G : Addr) (c : Option HO) (ns tot : List Int) (at_ : Nat) (σ : L2.St) (H : Hp) : Prop :=
  ∃ (pre rest : List (List (List Int))) (b : Ql46.Bridge) (acc : List Int) (bv : V) (v4 v5 v6 : Option V),
    σ = [some (.ref a), some (.ref G), some bv, some (.int (at_ : Nat)), v4, v5, v6] ∧ ns = PyFlat.put pre ++ PyFlat.put rest ∧ at_ = (PyFlat.put pre).length ∧
    (∀ c ∈ rest, PyFlat.okCall PyQl46.shape c ∧ Ql46Neutral.asked1 (PyQl46.whole c) = true) ∧ Al c a H ∧ H G = some (.lst (acc.map V.int)) ∧ acc ++ due b rest = tot ∧
    acc.length + 2001 * rest.length + 16 * (PyFlat.put rest).length ≤ 3000000 ∧ Inv b ∧
    ((bv = .non ∧ ∃ c0 r0, rest = c0 :: r0 ∧ Ql46Neutral.begins (PyQl46.whole c0) = true) ∨ ∃ L, bv = .ref L.b ∧ Rep t L H (b, []) ∧ ¬ Mu L G ∧ G ≠ L.pl ∧ (c ≠ none → ¬ Mu L a))
theorem LI.next {t : Adr} {a G : Addr} {c : Option HO} {ns tot : List Int} {pre rest : List (List (List Int))} {c0 : List (List Int)} {b : Ql46.Bridge} {acc : List Int} {q : Ql46.Call} (hns : ns = PyFlat.put pre ++ (PyFlat.put1 c0 ++ PyFlat.put rest))
    (hok : ∀ c ∈ rest, PyFlat.okCall PyQl46.shape c ∧ Ql46Neutral.asked1 (PyQl46.whole c) = true) (hq : Ql46Neutral.callOf (PyQl46.whole c0) = some q) (iv : Inv b) (htot : acc ++ due b (c0 :: rest) = tot)
    (hsz : acc.length + 2001 * (rest.length + 1) + 16 * ((PyFlat.put1 c0).length + (PyFlat.put rest).length) ≤ 3000000) (hfl : fl q ≤ (PyFlat.put1 c0).length) {H2 : Hp} {L' : Lay} (hA : Al c a H2) (hGa : c ≠ none → a ≠ G)
    (R : Rep t L' H2 ((Ql46.spec b q).1, [])) (hm : ¬ Mu L' G) (hpl : G ≠ L'.pl) (hma : c ≠ none → ¬ Mu L' a) (hG : H2 G = some (.lst (acc.map V.int))) (v4 v5 v6 : Option V) :
    LI t a G c ns tot ((PyFlat.put pre).length + (PyFlat.put1 c0).length) [some (.ref a), some (.ref G), some (.ref L'.b), some (.int ((PyFlat.put pre).length + (PyFlat.put1 c0).length : Nat)), v4, v5, v6]
      (upd H2 G (.lst ((acc.map V.int ++ [V.int ((ansI (Ql46.spec b q).2).length : Nat)]) ++ (ansI (Ql46.spec b q).2).map V.int))) := by
  have hsp := spec_fine iv q
  have eput : PyFlat.put (pre ++ [c0]) = PyFlat.put pre ++ PyFlat.put1 c0 := by
    clear hns hok htot hsz hsp
    induction pre with
    | nil => show PyFlat.put1 c0 ++ [] = [] ++ _; rw [List.append_nil]; rfl
    | cons x r ih => show PyFlat.put1 x ++ PyFlat.put (r ++ [c0]) = (PyFlat.put1 x ++ PyFlat.put r) ++ _; rw [ih, List.append_assoc]
  refine ⟨pre ++ [c0], rest, (Ql46.spec b q).1, acc ++ (((ansI (Ql46.spec b q).2).length : Int) :: ansI (Ql46.spec b q).2), .ref L'.b, v4, v5, v6, rfl, ?_, ?_, hok, ?_, ?_, ?_, ?_, hsp.1, .inr ⟨L', rfl, R.put hG hm hpl, hm, hpl, hma⟩⟩
  · rw [hns, eput, List.append_assoc]
  · rw [eput, List.length_append]
  · intro u e
    rw [upd_ne (hGa (by rw [e]; intro z; cases z))]
    exact hA u e
  · rw [upd_same, List.map_append, List.map_cons, List.append_assoc]; rfl
  · rw [← htot, due_cons hq, List.append_assoc]; rfl
  · have := hsp.2
    rw [List.length_append, List.length_cons]
    omega
theorem lens_of {l : List Int} {q : Ql46.Call} (h : Is l q) : ∃ (p : Int) (v : Nat), l[0]? = some p ∧ lens.lookup p = some (v : Int) ∧ ((p ≠ 3 ∧ l.length = v) ∨ (p = 3 ∧ ∃ n : Nat, l[2]? = some (n : Int) ∧ l.length = v + n)) := by
  rcases h with ⟨id, n, _, rfl, _⟩ | ci
  · exact ⟨0, 3, rfl, rfl, .inl ⟨by decide, rfl⟩⟩
  · cases ci with
    | on k c => exact ⟨1, 3, rfl, rfl, .inl ⟨by decide, rfl⟩⟩
    | off k => exact ⟨2, 2, rfl, rfl, .inl ⟨by decide, rfl⟩⟩
    | frame k f hl => exact ⟨3, 3, rfl, rfl, .inr ⟨rfl, f.length, rfl, by unfold Ql46Neutral.ints; rw [List.length_cons, List.length_cons, List.length_cons, List.length_map]; omega⟩⟩
    | second => exact ⟨4, 1, rfl, rfl, .inl ⟨by decide, rfl⟩⟩
    | port k => exact ⟨5, 2, rfl, rfl, .inl ⟨by decide, rfl⟩⟩
    | root => exact ⟨6, 1, rfl, rfl, .inl ⟨by decide, rfl⟩⟩
    | find a => exact ⟨7, 2, rfl, rfl, .inl ⟨by decide, rfl⟩⟩
theorem fl_le {l : List Int} {q : Ql46.Call} (h : Is l q) : fl q ≤ l.length := by
  rcases h with ⟨id, n, _, rfl, rfl⟩ | ci
  · exact Nat.zero_le _
  · cases ci with
    | frame k f hl => show f.length ≤ _; unfold Ql46Neutral.ints; rw [List.length_cons, List.length_cons, List.length_cons, List.length_map]; omega
    | _ => exact Nat.zero_le _
def spTop (K : PySem.W.Frag) : Sp := sp1 fun x H Q => ∃ (a : Addr) (ns : List Int), x = .ref a ∧ SqL K H a (ns.map V.int) ∧ ns.length ≤ 16000 ∧ PyQl46.answers_asked ns = true ∧ ∀ (H' : Hp) (p : Addr), H' p = some (.lst ((PyQl46.answers ns).map V.int)) → Q (.ref p) H'
abbrev sp_answers (K : PySem.W.Frag) (_ : Adr) : Sp := spTop K
section
variable {P : Program} {w : World} {K : PySem.W.Frag} {mg : Str → Option Value} {base : Heap} {t : Adr}
theorem ok_answers (T : Txt K mg t) : FnOk P w K mg base CX0 15 t.f_answers t.fd_answers ["calls"] (sp_answers K t) := by
  refine T.F_answers.okQ sc_answers sp1_len (fun cdv A outer s H vs Q E hr h => ?_)
  obtain ⟨x0, rfl, h⟩ := h
  obtain ⟨a, ns, rfl, ha, hlen, hask, k⟩ := h
  obtain ⟨cs, ens, hcs, hok, hdue, c1, cs1, ecs, hbeg⟩ := asked_of hask
  obtain ⟨c, hal, hsq⟩ := SqL.al ha
  refine ⟨_, (qb_cons (qs_set (i := 1) sc_answers.nd rfl (Or.inl rfl) (q_lst qa_nil)) (qb_cons (qs_set (i := 2) sc_answers.nd rfl (Or.inl rfl) q_non) (qb_cons (qs_set (i := 3) sc_answers.nd rfl (Or.inl rfl) q_int) (qb_cons (qs_while PassesOwn.never (qt_cmp op_lt (qv 3) (q_callB (k_len (K := K) rfl) rfl T.n_len PySem.boot_len (qac (qv 0) qa_nil)) (nomark _)) (qb_cons (qs_set (i := 4) sc_answers.nd rfl (Or.inl rfl) (q_op op_add (qv 3) (q_call (ok_call_length (K := K) T) (hr.mono (by decide)) rfl T.m_call_length T.F_call_length.kp T.b_call_length .nil pass0 (qac (qv 0) (qac (qv 3) qa_nil))))) (qb_cons (qs_set (i := 5) sc_answers.nd rfl (Or.inl rfl) (q_slice (k_sl (K := K) rfl) (qv 0) (qo_some (qv 3)) (qo_some (qv 4)))) (qb_cons (qs_if (qt_cmp op_ne (q_ix (k_ixl (K := K) rfl) (qv 5) q_int (fun _ _ => rfl)) (q_gi rfl T.c_BR_BEGIN) (nomark _)) (qb_one (qs_set (i := 6) sc_answers.nd rfl (Or.inl rfl) (q_call (ok_answer_call (K := K) T) (hr.mono (by decide)) rfl T.m_answer_call T.F_answer_call.kp T.b_answer_call .nil pass0 (qac (qv 2) (qac (qv 5) qa_nil))))) (qb_one (qs_if (qt_chain op_le op_le q_int (q_ix (k_ixl (K := K) rfl) (qv 5) q_int (fun _ _ => rfl)) (q_gi rfl T.c_MOST_PORTS)) (qb_cons (qs_set (i := 2) sc_answers.nd rfl (Or.inl rfl) (q_make T.K_Bridge (ok_Bridge_init (K := K) T) (hr.mono (by decide)) rfl T.m_Bridge T.b_Bridge_init .nil pass0 (qac (q_ix (k_ixl (K := K) rfl) (qv 5) q_int (fun _ _ => rfl)) (qac (q_ix (k_ixl (K := K) rfl) (qv 5) q_int (fun _ _ => rfl)) qa_nil)))) (qb_one (qs_set (i := 6) sc_answers.nd rfl (Or.inl rfl) (q_lst (qac q_int qa_nil))))) (qb_one (qs_set (i := 6) sc_answers.nd rfl (Or.inl rfl) (q_call0 (ok_refusal (K := K) T) (hr.mono (by decide)) rfl T.m_refusal T.F_refusal.kp T.b_refusal .nil pass0)))))) (qb_cons (qs_expr (q_bm (K := K) rfl PySem.F.plainAttrs_list PySem.F.slot_list_append PySem.F.type_list_append mt_append (qv 1) (qac (q_callB (k_len (K := K) rfl) rfl T.n_len PySem.boot_len (qac (qv 6) qa_nil)) qa_nil))) (qb_cons (qs_expr (q_bm (K := K) rfl PySem.F.plainAttrs_list PySem.F.slot_list_extend PySem.F.type_list_extend mt_extend (qv 1) (qac (qv 6) qa_nil))) (qb_one (qs_set (i := 3) sc_answers.nd rfl (Or.inl rfl) (qv 4))))))))) (qb_one (qs_ret (qv 1))))))), ?_⟩
  refine ⟨sz, fun G hG => ?_⟩
  have hGa : c ≠ none → a ≠ G := fun z => by
    cases c with
    | none => exact absurd rfl z
    | some u => exact ne_of_none (hal u rfl) hG
  refine ⟨fun m σ H' => ∃ at_, m = ns.length - at_ ∧ LI t a G c ns (PyQl46.answers ns) at_ σ H', ⟨_, 0, rfl, [], cs, Ql46Neutral.start, [], .non, none, none, none, rfl, ens, rfl, hok, hal.same (Same.new hG), upd_same, hdue.symm, ?_, inv_begin 0 1 (by decide), .inl ⟨rfl, c1, cs1, ecs, hbeg⟩⟩, ?_⟩
  · have : ns.length = (PyFlat.put cs).length := by rw [← ens]
    rw [← this]
    show 0 + 2001 * cs.length + 16 * ns.length ≤ 3000000
    omega
  rintro m σ H1 ⟨at_, rfl, pre, rest, b, acc, bv, v4, v5, v6, rfl, hns, hat, hok1, hal1, hG1, htot, hsz, iv, hbv⟩
  refine ⟨_, rfl, _, rfl, a, _, rfl, .inl (hsq H1 hal1), _, _, rfl, rfl, _, rfl, ?_⟩
  rw [List.length_map]
  cases rest with
  | nil =>
    have e1 : ns.length = at_ := by rw [hns, List.length_append, hat]; rfl
    refine ifD (fun z => absurd z (by rw [e1]; exact Int.lt_irrefl _)) (fun _ => ⟨_, rfl, k H1 G ?_⟩)
    rw [hG1, ← htot]
    show _ = some (HO.lst ((acc ++ []).map V.int))
    rw [List.append_nil]
  | cons c0 rest =>
    have hns : ns = PyFlat.put pre ++ (PyFlat.put1 c0 ++ PyFlat.put rest) := hns
    have hok2 := fun c h => hok1 c (List.mem_cons_of_mem c0 h)
    obtain ⟨q, his, hq⟩ := is_of (hok1 c0 List.mem_cons_self).1 (hok1 c0 List.mem_cons_self).2
    obtain ⟨p, v, l0, l1, l2⟩ := lens_of his
    have hfl := fl_le his
    have hsz : acc.length + 2001 * (rest.length + 1) + 16 * ((PyFlat.put1 c0).length + (PyFlat.put rest).length) ≤ 3000000 := by
      rw [← List.length_append]; exact hsz
    have hlp : 0 < (PyFlat.put1 c0).length := (List.getElem?_eq_some_iff.mp l0).1
    have eln : ns.length = at_ + ((PyFlat.put1 c0).length + (PyFlat.put rest).length) := by rw [hns, List.length_append, List.length_append, hat]
    have hget : ∀ j z, (PyFlat.put1 c0)[j]? = some z → ns[at_ + j]? = some z := fun j z e => by
      have hj := (List.getElem?_eq_some_iff.mp e).1
      rw [hns, List.getElem?_append_right (by omega), hat, Nat.add_sub_cancel_left, List.getElem?_append_left hj]
      exact e
    refine ifD (fun _ => ?_) (fun z => absurd z (fun z => z (by omega)))
    refine ⟨fun σ' H' => ∃ at2, at_ < at2 ∧ LI t a G c ns (PyQl46.answers ns) at2 σ' H', fun σ' H' ⟨at2, h1, h2⟩ => ⟨_, ?_, at2, rfl, h2⟩, ?_⟩
    · omega
    refine ⟨_, rfl, _, rfl, _, rfl, _, _, rfl, a, ns, at_, p, v, (PyFlat.put1 c0).length, rfl, rfl, hsq H1 hal1, hget 0 p l0, l1, ?_, ?_⟩
    · rcases l2 with ⟨z, e⟩ | ⟨z, n, e1, e2⟩
      · exact .inl ⟨z, e⟩
      · exact .inr ⟨z, n, hget 2 n e1, e2⟩
    refine ⟨_, _, rfl, rfl, ?_⟩
    refine ⟨_, rfl, _, rfl, _, rfl, _, rfl, _, rfl, a, _, rfl, hsq H1 hal1, fun r hr1 => ?_⟩
    have ecut : cutV (ns.map V.int) (some (at_ : Int)) (some ((at_ : Int) + ((PyFlat.put1 c0).length : Nat))) = (PyFlat.put1 c0).map V.int := by
      have := cut_two (ns.map V.int) at_ (at_ + (PyFlat.put1 c0).length)
      rw [Int.natCast_add] at this
      rw [this, Nat.add_sub_cancel_left, ← List.map_drop, ← List.map_take, hns, hat, List.drop_left, List.take_left]
    rw [ecut]
    have S1 := Same.new (o := .lst ((PyFlat.put1 c0).map V.int)) hr1
    generalize hH2 : upd H1 r (.lst ((PyFlat.put1 c0).map V.int)) = H2 at S1
    have hr2 : H2 r = some (.lst ((PyFlat.put1 c0).map V.int)) := by rw [← hH2]; exact upd_same
    have hal2 := hal1.same S1
    have hG2 := S1 _ _ hG1
    refine ⟨_, rfl, r, _, _, _, rfl, rfl, SqL.of hr2, at_map (i := 0) l0, rfl, _, rfl, ?_⟩
    have hacc : acc.length ≤ 3000000 := by omega
    have hnext := @LI.next t a G c ns (PyQl46.answers ns) pre rest c0 b acc q hns hok2 hq iv htot hsz hfl
    subst hat
    rcases his with ⟨id, n, hid, el, eq⟩ | ci
    · have ep : p = 0 := by rw [el] at l0; exact (Option.some.inj l0).symm
      subst ep
      subst eq
      have g1 : (PyFlat.put1 c0)[1]? = some (id : Int) := by rw [el]; rfl
      have g2 : (PyFlat.put1 c0)[2]? = some (n : Int) := by rw [el]; rfl
      rw [show (!decide (V.int 0 = V.int 0)) = false from rfl]
      walk_at "iff"
      refine ⟨_, rfl, r, _, _, _, rfl, rfl, SqL.of hr2, at_map (i := 2) g2, _, _, rfl, rfl, _, rfl, ?_⟩
      refine ifD (fun h1 => ?_) (fun h1 => ?_)
      · refine ⟨_, _, rfl, rfl, _, rfl, ?_⟩
        refine ifD (fun h2 => ?_) (fun h2 => ?_)
        · have espec : Ql46.spec b (.begin_ id n) = (Ql46.begin_ id n, Ql46.only 0) := by
            refine (if_neg (by unfold Ql46.PORTS; omega)).trans ?_
            rw [Nat.mod_eq_of_lt hid]
          refine ⟨_, rfl, r, _, _, _, rfl, rfl, SqL.of hr2, at_map (i := 1) g1, _, rfl, r, _, _, _, rfl, rfl, SqL.of hr2, at_map (i := 2) g2, fun x dx n1 n2 ne => ⟨_, _, _, rfl, x, dx, id, n, rfl, rfl, rfl, by omega, upd_same, fun H4 L4 eb R4 kp4 => ⟨rfl, ?_⟩⟩⟩
          have k4 : ∀ b' o, H2 b' = some o → H4 b' = some o ∧ ¬ Mu L4 b' ∧ b' ≠ L4.pl := fun b' o e => kp4 b' o (by rw [upd_ne (ne_of_none e n1), upd_ne (ne_of_none e n2)]; exact e) (ne_of_none e n1)
          refine ⟨sz, fun p5 h5 => ?_⟩
          have S5 := Same.new (o := .lst [V.int 0]) h5
          generalize hH5 : upd H4 p5 (.lst [V.int 0]) = H5 at S5
          have HA : H5 p5 = some (.lst ((ansI (Ql46.spec b (.begin_ id n)).2).map V.int)) := by rw [espec, ← hH5]; exact upd_same
          have HG := S5 _ _ (k4 _ _ hG2).1
          have ne5 : p5 ≠ G := (ne_of_none (k4 _ _ hG2).1 h5).symm
          have hal5 : Al c a H5 := fun u e => S5 _ _ (k4 _ _ (hal2 u e)).1
          have hma5 : c ≠ none → ¬ Mu L4 a := fun z => by
            cases hc : c with
            | none => exact absurd hc z
            | some u => exact (k4 _ _ (hal2 u hc)).2.1
          subst eb
          refine ⟨_, rfl, .inl ⟨rfl, _, SqL.of HG⟩, _, rfl, p5, _, rfl, .inl (SqL.of HA), G, _, _, rfl, rfl, HG, by rw [List.length_map]; exact Nat.lt_of_le_of_lt hacc (by decide), ?_⟩
          rw [List.length_map]
          refine ⟨_, rfl, .inl ⟨rfl, _, SqL.of upd_same⟩, _, rfl, G, p5, _, _, rfl, rfl, upd_same, (upd_ne ne5).trans HA, ?_, ?_⟩
          · rw [List.length_append, List.length_map, List.length_map, List.length_cons]
            exact Nat.le_trans (m := 3000000) (by have := (spec_fine iv (.begin_ id n)).2; simp only [List.length_nil]; omega) (by decide)
          rw [upd_upd]
          have hn := hnext hal5 hGa (by rw [espec]; exact R4.same S5) (k4 _ _ hG2).2.1 (k4 _ _ hG2).2.2 hma5 HG (some (.int (((PyFlat.put pre).length : Nat) + ((PyFlat.put1 c0).length : Nat)))) (some (.ref r)) (some (.ref p5))
          exact ⟨_, rfl, _, by omega, hn⟩
        · skip
          obtain ⟨L, rfl, R, hmG, hpG, hma⟩ := hbv.resolve_left fun ⟨_, c2, r2, e2, hb2⟩ => by
            cases e2
            obtain ⟨id', n', e3, h3, h4⟩ := begins_call hb2 hq
            cases e3
            omega
          have espec : Ql46.spec b (.begin_ id n) = (b, Ql46.only (-1)) := if_pos (by unfold Ql46.PORTS; omega)
          refine ⟨rfl, fun H3 p3 s3 f3 e3 => ?_⟩
          have S3 := S1.trans s3
          have HA : H3 p3 = some (.lst ((ansI (Ql46.spec b (.begin_ id n)).2).map V.int)) := by rw [espec]; exact e3
          have HG := s3 _ _ hG2
          have ne3 : p3 ≠ G := (ne_of_none hG2 f3).symm
          refine ⟨_, rfl, .inl ⟨rfl, _, SqL.of HG⟩, _, rfl, p3, _, rfl, .inl (SqL.of HA), G, _, _, rfl, rfl, HG, by rw [List.length_map]; exact Nat.lt_of_le_of_lt hacc (by decide), ?_⟩
          rw [List.length_map]
          refine ⟨_, rfl, .inl ⟨rfl, _, SqL.of upd_same⟩, _, rfl, G, p3, _, _, rfl, rfl, upd_same, (upd_ne ne3).trans HA, ?_, ?_⟩
          · rw [List.length_append, List.length_map, List.length_map, List.length_cons]
            exact Nat.le_trans (m := 3000000) (by have := (spec_fine iv (.begin_ id n)).2; simp only [List.length_nil]; omega) (by decide)
          rw [upd_upd]
          have hn := hnext (hal2.same s3) hGa (by rw [espec]; exact (R.rp.same S3).rep) hmG hpG hma HG (some (.int (((PyFlat.put pre).length : Nat) + ((PyFlat.put1 c0).length : Nat)))) (some (.ref r)) (some (.ref p3))
          exact ⟨_, rfl, _, by omega, hn⟩
      · refine ⟨_, rfl, ?_⟩
        walk_at "iff"
        obtain ⟨L, rfl, R, hmG, hpG, hma⟩ := hbv.resolve_left fun ⟨_, c2, r2, e2, hb2⟩ => by
          cases e2
          obtain ⟨id', n', e3, h3, h4⟩ := begins_call hb2 hq
          cases e3
          omega
        have espec : Ql46.spec b (.begin_ id n) = (b, Ql46.only (-1)) := if_pos (by unfold Ql46.PORTS; omega)
        refine ⟨rfl, fun H3 p3 s3 f3 e3 => ?_⟩
        have S3 := S1.trans s3
        have HA : H3 p3 = some (.lst ((ansI (Ql46.spec b (.begin_ id n)).2).map V.int)) := by rw [espec]; exact e3
        have HG := s3 _ _ hG2
        have ne3 : p3 ≠ G := (ne_of_none hG2 f3).symm
        refine ⟨_, rfl, .inl ⟨rfl, _, SqL.of HG⟩, _, rfl, p3, _, rfl, .inl (SqL.of HA), G, _, _, rfl, rfl, HG, by rw [List.length_map]; exact Nat.lt_of_le_of_lt hacc (by decide), ?_⟩
        rw [List.length_map]
        refine ⟨_, rfl, .inl ⟨rfl, _, SqL.of upd_same⟩, _, rfl, G, p3, _, _, rfl, rfl, upd_same, (upd_ne ne3).trans HA, ?_, ?_⟩
        · rw [List.length_append, List.length_map, List.length_map, List.length_cons]
          exact Nat.le_trans (m := 3000000) (by have := (spec_fine iv (.begin_ id n)).2; simp only [List.length_nil]; omega) (by decide)
        rw [upd_upd]
        have hn := hnext (hal2.same s3) hGa (by rw [espec]; exact (R.rp.same S3).rep) hmG hpG hma HG (some (.int (((PyFlat.put pre).length : Nat) + ((PyFlat.put1 c0).length : Nat)))) (some (.ref r)) (some (.ref p3))
        exact ⟨_, rfl, _, by omega, hn⟩
    · have ep : p ≠ 0 := fun z => by
        rw [z] at l0
        generalize PyFlat.put1 c0 = l at ci l0
        cases ci <;> (have := Option.some.inj l0; exact absurd this (by decide))
      obtain ⟨L, rfl, R, hmG, hpG, hma⟩ := hbv.resolve_left fun ⟨_, c2, r2, e2, hb2⟩ => by
        cases e2
        exact ci_no ci (begins_call hb2 hq)
      rw [show (!decide (V.int p = V.int 0)) = true from by rw [int_eqB, decide_eq_false ep]; rfl]
      walk_at "ift"
      refine ⟨_, rfl, _, rfl, _, _, rfl, L, b, r, PyFlat.put1 c0, q, rfl, rfl, hr2, R.fresh hr1, ci, (R.rp.same S1).rep, iv, fun H3 L3 p3 R3 x3 f3 m3 e3 => ?_⟩
      have hG3 := x3.kp G _ hG2 hmG
      have ne3 : p3 ≠ G := fun z => hmG (z ▸ f3 _ (z ▸ hG2))
      obtain ⟨hal3, hma3⟩ := hal2.ext hma x3
      refine ⟨_, rfl, .inl ⟨rfl, _, SqL.of hG3.1⟩, _, rfl, p3, _, rfl, .inl (SqL.of e3), G, _, _, rfl, rfl, hG3.1, by rw [List.length_map]; exact Nat.lt_of_le_of_lt hacc (by decide), ?_⟩
      rw [List.length_map]
      refine ⟨_, rfl, .inl ⟨rfl, _, SqL.of upd_same⟩, _, rfl, G, p3, _, _, rfl, rfl, upd_same, (upd_ne ne3).trans e3, ?_, ?_⟩
      · rw [List.length_append, List.length_map, List.length_map, List.length_cons]
        exact Nat.le_trans (m := 3000000) (by have := (spec_fine iv q).2; simp only [List.length_nil]; omega) (by decide)
      rw [upd_upd]
      have hn := hnext hal3 hGa R3 hG3.2 (by rw [x3.pl]; exact hpG) hma3 hG3.1 (some (.int (((PyFlat.put pre).length : Nat) + ((PyFlat.put1 c0).length : Nat)))) (some (.ref r)) (some (.ref p3))
      rw [x3.b] at hn
      exact ⟨_, rfl, _, by omega, hn⟩
end
end Tb
namespace Tb
open PySem PySem.Spec PyProof.Rows L2
open PySem.W
abbrev fo (nm q : Str) (st : Stmt) (kV dc pm : Value) (an : Option Addr) (cd ct : Value) : FuncData := PySem.W.fnOf nm q (defArgs st) (defBody st) (defScope st) .none kV dc pm an cd ct
theorem fm {K : PySem.W.Frag} {nm q : Str} {st : Stmt} {f : Addr} {od an : Option Addr} {sl : Array (Option Value)} {oc kV dc pm cd ct : Value} (l : K.lookup f = some ⟨oc, od, .func (fo nm q st kV dc pm an cd ct), sl⟩) (o : PySem.W.codeIn K cd q = true) (k : PySem.W.keepIn K (.ref f) = true) : Fun K nm q st f (fo nm q st kV dc pm an cd ct) := fun_mk (st := st) l o k
local macro_rules | `(tactic| walk_at "b0") => `(tactic| exact fun _ _ _ _ _ _ us hl => match us, hl with | [], _ => rfl)
local macro_rules | `(tactic| walk_at "b1") => `(tactic| exact fun _ _ _ _ _ _ us hl => match us, hl with | [_], _ => rfl)
local macro_rules | `(tactic| walk_at "b2") => `(tactic| exact fun _ _ _ _ _ _ us hl => match us, hl with | [_, _], _ => rfl)
local macro_rules | `(tactic| walk_at "b3") => `(tactic| exact fun _ _ _ _ _ _ us hl => match us, hl with | [_, _, _], _ => rfl)
local macro_rules | `(tactic| walk_at "b4") => `(tactic| exact fun _ _ _ _ _ _ us hl => match us, hl with | [_, _, _, _], _ => rfl)
local macro_rules | `(tactic| walk_at "b5") => `(tactic| exact fun _ _ _ _ _ _ us hl => match us, hl with | [_, _, _, _, _], _ => rfl)
local macro_rules | `(tactic| walk_at "b6") => `(tactic| exact fun _ _ _ _ _ _ us hl => match us, hl with | [_, _, _, _, _, _], _ => rfl)
theorem txt_mk {K : Frag} {h : Heap} {mg : Str → Option Value} (X : K.In h) (G : h.Ns mainGlobals mg)
 {A0 : Addr} {E0 : Array DictEntry} {P0 : Nat}
 {t0 t1 t2 t3 t4 t5 t6 t7 t8 t9 t10 t11 t12 t13 t14 t15 t16 t17 t18 t19 t20 t21 t22 t23 t24 t25 t26 t27 : Tok}
 {C0 C1 C2 C3 C4 C5 : Addr}
 {f0 f1 f2 f3 f4 f5 f6 f7 f8 f9 f10 f11 f12 f13 f14 f15 f16 f17 f18 f19 f20 f21 f22 f23 f24 f25 f26 f27 f28 f29 f30 f31 f32 f33 f34 f35 f36 f37 f38 f39 f40 f41 f42 f43 f44 f45 f46 f47 f48 f49 f50 f51 f52 f53 f54 f55 f56 f57 f58 f59 f60 f61 f62 f63 f64 f65 f66 f67 f68 f69 f70 f71 f72 f73 f74 f75 f76 f77 : Addr}
 {od0 od1 od2 od3 od4 od5 od6 od7 od8 od9 od10 od11 od12 od13 od14 od15 od16 od17 od18 od19 od20 od21 od22 od23 od24 od25 od26 od27 od28 od29 od30 od31 od32 od33 od34 od35 od36 od37 od38 od39 od40 od41 od42 od43 od44 od45 od46 od47 od48 od49 od50 od51 od52 od53 od54 od55 od56 od57 od58 od59 od60 od61 od62 od63 od64 od65 od66 od67 od68 od69 od70 od71 od72 od73 od74 od75 od76 od77 an0 an1 an2 an3 an4 an5 an6 an7 an8 an9 an10 an11 an12 an13 an14 an15 an16 an17 an18 an19 an20 an21 an22 an23 an24 an25 an26 an27 an28 an29 an30 an31 an32 an33 an34 an35 an36 an37 an38 an39 an40 an41 an42 an43 an44 an45 an46 an47 an48 an49 an50 an51 an52 an53 an54 an55 an56 an57 an58 an59 an60 an61 an62 an63 an64 an65 an66 an67 an68 an69 an70 an71 an72 an73 an74 an75 an76 an77 : Option Addr}
 {sl0 sl1 sl2 sl3 sl4 sl5 sl6 sl7 sl8 sl9 sl10 sl11 sl12 sl13 sl14 sl15 sl16 sl17 sl18 sl19 sl20 sl21 sl22 sl23 sl24 sl25 sl26 sl27 sl28 sl29 sl30 sl31 sl32 sl33 sl34 sl35 sl36 sl37 sl38 sl39 sl40 sl41 sl42 sl43 sl44 sl45 sl46 sl47 sl48 sl49 sl50 sl51 sl52 sl53 sl54 sl55 sl56 sl57 sl58 sl59 sl60 sl61 sl62 sl63 sl64 sl65 sl66 sl67 sl68 sl69 sl70 sl71 sl72 sl73 sl74 sl75 sl76 sl77 : Array (Option Value)}
 {oc0 oc1 oc2 oc3 oc4 oc5 oc6 oc7 oc8 oc9 oc10 oc11 oc12 oc13 oc14 oc15 oc16 oc17 oc18 oc19 oc20 oc21 oc22 oc23 oc24 oc25 oc26 oc27 oc28 oc29 oc30 oc31 oc32 oc33 oc34 oc35 oc36 oc37 oc38 oc39 oc40 oc41 oc42 oc43 oc44 oc45 oc46 oc47 oc48 oc49 oc50 oc51 oc52 oc53 oc54 oc55 oc56 oc57 oc58 oc59 oc60 oc61 oc62 oc63 oc64 oc65 oc66 oc67 oc68 oc69 oc70 oc71 oc72 oc73 oc74 oc75 oc76 oc77 kV0 kV1 kV2 kV3 kV4 kV5 kV6 kV7 kV8 kV9 kV10 kV11 kV12 kV13 kV14 kV15 kV16 kV17 kV18 kV19 kV20 kV21 kV22 kV23 kV24 kV25 kV26 kV27 kV28 kV29 kV30 kV31 kV32 kV33 kV34 kV35 kV36 kV37 kV38 kV39 kV40 kV41 kV42 kV43 kV44 kV45 kV46 kV47 kV48 kV49 kV50 kV51 kV52 kV53 kV54 kV55 kV56 kV57 kV58 kV59 kV60 kV61 kV62 kV63 kV64 kV65 kV66 kV67 kV68 kV69 kV70 kV71 kV72 kV73 kV74 kV75 kV76 kV77 dc0 dc1 dc2 dc3 dc4 dc5 dc6 dc7 dc8 dc9 dc10 dc11 dc12 dc13 dc14 dc15 dc16 dc17 dc18 dc19 dc20 dc21 dc22 dc23 dc24 dc25 dc26 dc27 dc28 dc29 dc30 dc31 dc32 dc33 dc34 dc35 dc36 dc37 dc38 dc39 dc40 dc41 dc42 dc43 dc44 dc45 dc46 dc47 dc48 dc49 dc50 dc51 dc52 dc53 dc54 dc55 dc56 dc57 dc58 dc59 dc60 dc61 dc62 dc63 dc64 dc65 dc66 dc67 dc68 dc69 dc70 dc71 dc72 dc73 dc74 dc75 dc76 dc77 pm0 pm1 pm2 pm3 pm4 pm5 pm6 pm7 pm8 pm9 pm10 pm11 pm12 pm13 pm14 pm15 pm16 pm17 pm18 pm19 pm20 pm21 pm22 pm23 pm24 pm25 pm26 pm27 pm28 pm29 pm30 pm31 pm32 pm33 pm34 pm35 pm36 pm37 pm38 pm39 pm40 pm41 pm42 pm43 pm44 pm45 pm46 pm47 pm48 pm49 pm50 pm51 pm52 pm53 pm54 pm55 pm56 pm57 pm58 pm59 pm60 pm61 pm62 pm63 pm64 pm65 pm66 pm67 pm68 pm69 pm70 pm71 pm72 pm73 pm74 pm75 pm76 pm77 cd0 cd1 cd2 cd3 cd4 cd5 cd6 cd7 cd8 cd9 cd10 cd11 cd12 cd13 cd14 cd15 cd16 cd17 cd18 cd19 cd20 cd21 cd22 cd23 cd24 cd25 cd26 cd27 cd28 cd29 cd30 cd31 cd32 cd33 cd34 cd35 cd36 cd37 cd38 cd39 cd40 cd41 cd42 cd43 cd44 cd45 cd46 cd47 cd48 cd49 cd50 cd51 cd52 cd53 cd54 cd55 cd56 cd57 cd58 cd59 cd60 cd61 cd62 cd63 cd64 cd65 cd66 cd67 cd68 cd69 cd70 cd71 cd72 cd73 cd74 cd75 cd76 cd77 ct0 ct1 ct2 ct3 ct4 ct5 ct6 ct7 ct8 ct9 ct10 ct11 ct12 ct13 ct14 ct15 ct16 ct17 ct18 ct19 ct20 ct21 ct22 ct23 ct24 ct25 ct26 ct27 ct28 ct29 ct30 ct31 ct32 ct33 ct34 ct35 ct36 ct37 ct38 ct39 ct40 ct41 ct42 ct43 ct44 ct45 ct46 ct47 ct48 ct49 ct50 ct51 ct52 ct53 ct54 ct55 ct56 ct57 ct58 ct59 ct60 ct61 ct62 ct63 ct64 ct65 ct66 ct67 ct68 ct69 ct70 ct71 ct72 ct73 ct74 ct75 ct76 ct77 : Value}
 (h0 : nsIn K mainGlobals "OFF" = some (some (.int (0) t0)))
 (h1 : nsIn K mainGlobals "BLOCKING" = some (some (.int (1) t1)))
 (h2 : nsIn K mainGlobals "LISTENING" = some (some (.int (2) t2)))
 (h3 : nsIn K mainGlobals "LEARNING" = some (some (.int (3) t3)))
 (h4 : nsIn K mainGlobals "FORWARDING" = some (some (.int (4) t4)))
 (h5 : nsIn K mainGlobals "BRIDGES_ADDRESS" = some (some (.int (1652522221568) t5)))
 (h6 : nsIn K mainGlobals "CHANGE_KNOWN" = some (some (.int (128) t6)))
 (h7 : nsIn K mainGlobals "CHANGE_THERE" = some (some (.int (1) t7)))
 (h8 : nsIn K mainGlobals "SAID_LENGTH" = some (some (.int (35) t8)))
 (h9 : nsIn K mainGlobals "MOST_ADDRESSES" = some (some (.int (1024) t9)))
 (h10 : nsIn K mainGlobals "GROUP_BIT" = some (some (.int (1099511627776) t10)))
 (h11 : nsIn K mainGlobals "FIRST_KEPT_ADDRESS" = some (some (.int (1652522221569) t11)))
 (h12 : nsIn K mainGlobals "LAST_KEPT_ADDRESS" = some (some (.int (1652522221583) t12)))
 (h13 : nsIn K mainGlobals "ASKING_SECONDS" = some (some (.int (2) t13)))
 (h14 : nsIn K mainGlobals "CHANGING_SECONDS" = some (some (.int (35) t14)))
 (h15 : nsIn K mainGlobals "HOLD_SECONDS" = some (some (.int (1) t15)))
 (h16 : nsIn K mainGlobals "ADDRESS_SECONDS" = some (some (.int (300) t16)))
 (h17 : nsIn K mainGlobals "BR_BEGIN" = some (some (.int (0) t17)))
 (h18 : nsIn K mainGlobals "BR_ON" = some (some (.int (1) t18)))
 (h19 : nsIn K mainGlobals "BR_OFF" = some (some (.int (2) t19)))
 (h20 : nsIn K mainGlobals "BR_FRAME" = some (some (.int (3) t20)))
 (h21 : nsIn K mainGlobals "BR_SECOND" = some (some (.int (4) t21)))
 (h22 : nsIn K mainGlobals "BR_PORT" = some (some (.int (5) t22)))
 (h23 : nsIn K mainGlobals "BR_ROOT" = some (some (.int (6) t23)))
 (h24 : nsIn K mainGlobals "CALL_LENGTHS" = some (some (.ref A0)))
 (h25 : K.lookup A0 = some ⟨.type "dict", none, .dict E0 P0, #[]⟩)
 (e0 : KdEs E0.toList [(0, 3), (1, 3), (2, 2), (3, 3), (4, 1), (5, 2), (6, 1), (7, 2)])
 (h27 : nsIn K mainGlobals "MOST_PORTS" = some (some (.int (16) t24)))
 (h28 : nsIn K mainGlobals "MOST_COST" = some (some (.int (65535) t25)))
 (h29 : nsIn K mainGlobals "LEAST_BYTES" = some (some (.int (14) t26)))
 (h30 : nsIn K mainGlobals "MOST_BYTES" = some (some (.int (2048) t27)))
 (h31 : nsIn K mainGlobals "range" = some none)
 (h32 : nsIn K mainGlobals "len" = some none)
 (h33 : nsIn K mainGlobals "list" = some none)
 (h34 : nsIn K mainGlobals "min" = some none)
 (h35 : nsIn K mainGlobals "any" = some none)
 (h36 : nsIn K mainGlobals "Leader" = some (some (.ref C0)))
 (h37 : plainGet K C0 Str.empty = true)
 (h38 : hasDictIn K C0 = true)
 (h39 : plainOver K C0 = true)
 (h40 : findIn K (.ref C0) "__setattr__" = some (some (.builtin "object.__setattr__")))
 (h41 : makesIn K C0 = true)
 (h42 : keepIn K (.ref C0) = true)
 (h43 : findIn K (.ref C0) "root" = some none)
 (h44 : findIn K (.ref C0) "cost" = some none)
 (h45 : findIn K (.ref C0) "bridge" = some none)
 (h46 : findIn K (.ref C0) "port" = some none)
 (h47 : nsIn K mainGlobals "Times" = some (some (.ref C1)))
 (h48 : plainGet K C1 Str.empty = true)
 (h49 : hasDictIn K C1 = true)
 (h50 : plainOver K C1 = true)
 (h51 : findIn K (.ref C1) "__setattr__" = some (some (.builtin "object.__setattr__")))
 (h52 : makesIn K C1 = true)
 (h53 : keepIn K (.ref C1) = true)
 (h54 : findIn K (.ref C1) "oldest" = some none)
 (h55 : findIn K (.ref C1) "between" = some none)
 (h56 : findIn K (.ref C1) "wait" = some none)
 (h57 : nsIn K mainGlobals "Said" = some (some (.ref C2)))
 (h58 : plainGet K C2 Str.empty = true)
 (h59 : hasDictIn K C2 = true)
 (h60 : plainOver K C2 = true)
 (h61 : findIn K (.ref C2) "__setattr__" = some (some (.builtin "object.__setattr__")))
 (h62 : makesIn K C2 = true)
 (h63 : keepIn K (.ref C2) = true)
 (h64 : findIn K (.ref C2) "leader" = some none)
 (h65 : findIn K (.ref C2) "age" = some none)
 (h66 : findIn K (.ref C2) "times" = some none)
 (h67 : findIn K (.ref C2) "change" = some none)
 (h68 : findIn K (.ref C2) "known" = some none)
 (h69 : nsIn K mainGlobals "Port" = some (some (.ref C3)))
 (h70 : plainGet K C3 Str.empty = true)
 (h71 : hasDictIn K C3 = true)
 (h72 : plainOver K C3 = true)
 (h73 : findIn K (.ref C3) "__setattr__" = some (some (.builtin "object.__setattr__")))
 (h74 : makesIn K C3 = true)
 (h75 : keepIn K (.ref C3) = true)
 (h76 : findIn K (.ref C3) "place" = some none)
 (h77 : findIn K (.ref C3) "own_number" = some none)
 (h78 : findIn K (.ref C3) "way_cost" = some none)
 (h79 : findIn K (.ref C3) "leader" = some none)
 (h80 : findIn K (.ref C3) "state" = some none)
 (h81 : findIn K (.ref C3) "age" = some none)
 (h82 : findIn K (.ref C3) "wait" = some none)
 (h83 : findIn K (.ref C3) "hold" = some none)
 (h84 : findIn K (.ref C3) "to_tell" = some none)
 (h85 : findIn K (.ref C3) "to_call_known" = some none)
 (h86 : nsIn K mainGlobals "Addresses" = some (some (.ref C4)))
 (h87 : plainGet K C4 Str.empty = true)
 (h88 : hasDictIn K C4 = true)
 (h89 : plainOver K C4 = true)
 (h90 : findIn K (.ref C4) "__setattr__" = some (some (.builtin "object.__setattr__")))
 (h91 : makesIn K C4 = true)
 (h92 : keepIn K (.ref C4) = true)
 (h93 : findIn K (.ref C4) "heard" = some none)
 (h94 : nsIn K mainGlobals "Bridge" = some (some (.ref C5)))
 (h95 : plainGet K C5 Str.empty = true)
 (h96 : hasDictIn K C5 = true)
 (h97 : plainOver K C5 = true)
 (h98 : findIn K (.ref C5) "__setattr__" = some (some (.builtin "object.__setattr__")))
 (h99 : makesIn K C5 = true)
 (h100 : keepIn K (.ref C5) = true)
 (h101 : findIn K (.ref C5) "own_id" = some none)
 (h102 : findIn K (.ref C5) "ports" = some none)
 (h103 : findIn K (.ref C5) "root" = some none)
 (h104 : findIn K (.ref C5) "cost" = some none)
 (h105 : findIn K (.ref C5) "root_port" = some none)
 (h106 : findIn K (.ref C5) "times" = some none)
 (h107 : findIn K (.ref C5) "change_found" = some none)
 (h108 : findIn K (.ref C5) "change_there" = some none)
 (h109 : findIn K (.ref C5) "telling" = some none)
 (h110 : findIn K (.ref C5) "asking" = some none)
 (h111 : findIn K (.ref C5) "changing" = some none)
 (h112 : findIn K (.ref C5) "addresses" = some none)
 (h113 : findIn K (.ref C5) "sent" = some none)
 (a0 : findIn K (.ref C0) "__init__" = some (some (.ref f0)))
 (i0 : isFn K (.ref f0) = true)
 (l0 : K.lookup f0 = some ⟨oc0, od0, .func (fo "__init__" "Leader.__init__" s_Leader_init kV0 dc0 pm0 an0 cd0 ct0), sl0⟩)
 (o0 : codeIn K cd0 "Leader.__init__" = true)
 (k0 : keepIn K (.ref f0) = true)
 (a1 : findIn K (.ref C1) "__init__" = some (some (.ref f1)))
 (i1 : isFn K (.ref f1) = true)
 (l1 : K.lookup f1 = some ⟨oc1, od1, .func (fo "__init__" "Times.__init__" s_Times_init kV1 dc1 pm1 an1 cd1 ct1), sl1⟩)
 (o1 : codeIn K cd1 "Times.__init__" = true)
 (k1 : keepIn K (.ref f1) = true)
 (a2 : findIn K (.ref C2) "__init__" = some (some (.ref f2)))
 (i2 : isFn K (.ref f2) = true)
 (l2 : K.lookup f2 = some ⟨oc2, od2, .func (fo "__init__" "Said.__init__" s_Said_init kV2 dc2 pm2 an2 cd2 ct2), sl2⟩)
 (o2 : codeIn K cd2 "Said.__init__" = true)
 (k2 : keepIn K (.ref f2) = true)
 (a3 : findIn K (.ref C3) "__init__" = some (some (.ref f3)))
 (i3 : isFn K (.ref f3) = true)
 (l3 : K.lookup f3 = some ⟨oc3, od3, .func (fo "__init__" "Port.__init__" s_Port_init kV3 dc3 pm3 an3 cd3 ct3), sl3⟩)
 (o3 : codeIn K cd3 "Port.__init__" = true)
 (k3 : keepIn K (.ref f3) = true)
 (a4 : findIn K (.ref C3) "turn_off" = some (some (.ref f4)))
 (i4 : isFn K (.ref f4) = true)
 (l4 : K.lookup f4 = some ⟨oc4, od4, .func (fo "turn_off" "Port.turn_off" s_Port_turn_off kV4 dc4 pm4 an4 cd4 ct4), sl4⟩)
 (o4 : codeIn K cd4 "Port.turn_off" = true)
 (k4 : keepIn K (.ref f4) = true)
 (a5 : findIn K (.ref C3) "forget_notes" = some (some (.ref f5)))
 (i5 : isFn K (.ref f5) = true)
 (l5 : K.lookup f5 = some ⟨oc5, od5, .func (fo "forget_notes" "Port.forget_notes" s_Port_forget_notes kV5 dc5 pm5 an5 cd5 ct5), sl5⟩)
 (o5 : codeIn K cd5 "Port.forget_notes" = true)
 (k5 : keepIn K (.ref f5) = true)
 (a6 : findIn K (.ref C3) "start_forwarding" = some (some (.ref f6)))
 (i6 : isFn K (.ref f6) = true)
 (l6 : K.lookup f6 = some ⟨oc6, od6, .func (fo "start_forwarding" "Port.start_forwarding" s_Port_start_forwarding kV6 dc6 pm6 an6 cd6 ct6), sl6⟩)
 (o6 : codeIn K cd6 "Port.start_forwarding" = true)
 (k6 : keepIn K (.ref f6) = true)
 (a7 : nsIn K mainGlobals "number_row" = some (some (.ref f7)))
 (l7 : K.lookup f7 = some ⟨oc7, od7, .func (fo "number_row" "number_row" s_number_row kV7 dc7 pm7 an7 cd7 ct7), sl7⟩)
 (o7 : codeIn K cd7 "number_row" = true)
 (k7 : keepIn K (.ref f7) = true)
 (a8 : nsIn K mainGlobals "row_number" = some (some (.ref f8)))
 (l8 : K.lookup f8 = some ⟨oc8, od8, .func (fo "row_number" "row_number" s_row_number kV8 dc8 pm8 an8 cd8 ct8), sl8⟩)
 (o8 : codeIn K cd8 "row_number" = true)
 (k8 : keepIn K (.ref f8) = true)
 (a9 : nsIn K mainGlobals "message_frame" = some (some (.ref f9)))
 (l9 : K.lookup f9 = some ⟨oc9, od9, .func (fo "message_frame" "message_frame" s_message_frame kV9 dc9 pm9 an9 cd9 ct9), sl9⟩)
 (o9 : codeIn K cd9 "message_frame" = true)
 (k9 : keepIn K (.ref f9) = true)
 (a10 : nsIn K mainGlobals "changed_frame" = some (some (.ref f10)))
 (l10 : K.lookup f10 = some ⟨oc10, od10, .func (fo "changed_frame" "changed_frame" s_changed_frame kV10 dc10 pm10 an10 cd10 ct10), sl10⟩)
 (o10 : codeIn K cd10 "changed_frame" = true)
 (k10 : keepIn K (.ref f10) = true)
 (a11 : nsIn K mainGlobals "said_frame" = some (some (.ref f11)))
 (l11 : K.lookup f11 = some ⟨oc11, od11, .func (fo "said_frame" "said_frame" s_said_frame kV11 dc11 pm11 an11 cd11 ct11), sl11⟩)
 (o11 : codeIn K cd11 "said_frame" = true)
 (k11 : keepIn K (.ref f11) = true)
 (a12 : nsIn K mainGlobals "notes_byte" = some (some (.ref f12)))
 (l12 : K.lookup f12 = some ⟨oc12, od12, .func (fo "notes_byte" "notes_byte" s_notes_byte kV12 dc12 pm12 an12 cd12 ct12), sl12⟩)
 (o12 : codeIn K cd12 "notes_byte" = true)
 (k12 : keepIn K (.ref f12) = true)
 (a13 : nsIn K mainGlobals "message_body" = some (some (.ref f13)))
 (l13 : K.lookup f13 = some ⟨oc13, od13, .func (fo "message_body" "message_body" s_message_body kV13 dc13 pm13 an13 cd13 ct13), sl13⟩)
 (o13 : codeIn K cd13 "message_body" = true)
 (k13 : keepIn K (.ref f13) = true)
 (a14 : nsIn K mainGlobals "is_changed" = some (some (.ref f14)))
 (l14 : K.lookup f14 = some ⟨oc14, od14, .func (fo "is_changed" "is_changed" s_is_changed kV14 dc14 pm14 an14 cd14 ct14), sl14⟩)
 (o14 : codeIn K cd14 "is_changed" = true)
 (k14 : keepIn K (.ref f14) = true)
 (a15 : nsIn K mainGlobals "read_said" = some (some (.ref f15)))
 (l15 : K.lookup f15 = some ⟨oc15, od15, .func (fo "read_said" "read_said" s_read_said kV15 dc15 pm15 an15 cd15 ct15), sl15⟩)
 (o15 : codeIn K cd15 "read_said" = true)
 (k15 : keepIn K (.ref f15) = true)
 (a16 : nsIn K mainGlobals "row_seconds" = some (some (.ref f16)))
 (l16 : K.lookup f16 = some ⟨oc16, od16, .func (fo "row_seconds" "row_seconds" s_row_seconds kV16 dc16 pm16 an16 cd16 ct16), sl16⟩)
 (o16 : codeIn K cd16 "row_seconds" = true)
 (k16 : keepIn K (.ref f16) = true)
 (a17 : findIn K (.ref C4) "__init__" = some (some (.ref f17)))
 (i17 : isFn K (.ref f17) = true)
 (l17 : K.lookup f17 = some ⟨oc17, od17, .func (fo "__init__" "Addresses.__init__" s_Addresses_init kV17 dc17 pm17 an17 cd17 ct17), sl17⟩)
 (o17 : codeIn K cd17 "Addresses.__init__" = true)
 (k17 : keepIn K (.ref f17) = true)
 (a18 : findIn K (.ref C4) "hear" = some (some (.ref f18)))
 (i18 : isFn K (.ref f18) = true)
 (l18 : K.lookup f18 = some ⟨oc18, od18, .func (fo "hear" "Addresses.hear" s_Addresses_hear kV18 dc18 pm18 an18 cd18 ct18), sl18⟩)
 (o18 : codeIn K cd18 "Addresses.hear" = true)
 (k18 : keepIn K (.ref f18) = true)
 (a19 : findIn K (.ref C4) "place_of" = some (some (.ref f19)))
 (i19 : isFn K (.ref f19) = true)
 (l19 : K.lookup f19 = some ⟨oc19, od19, .func (fo "place_of" "Addresses.place_of" s_Addresses_place_of kV19 dc19 pm19 an19 cd19 ct19), sl19⟩)
 (o19 : codeIn K cd19 "Addresses.place_of" = true)
 (k19 : keepIn K (.ref f19) = true)
 (a20 : findIn K (.ref C4) "forget_place" = some (some (.ref f20)))
 (i20 : isFn K (.ref f20) = true)
 (l20 : K.lookup f20 = some ⟨oc20, od20, .func (fo "forget_place" "Addresses.forget_place" s_Addresses_forget_place kV20 dc20 pm20 an20 cd20 ct20), sl20⟩)
 (o20 : codeIn K cd20 "Addresses.forget_place" = true)
 (k20 : keepIn K (.ref f20) = true)
 (a21 : findIn K (.ref C4) "grow_older" = some (some (.ref f21)))
 (i21 : isFn K (.ref f21) = true)
 (l21 : K.lookup f21 = some ⟨oc21, od21, .func (fo "grow_older" "Addresses.grow_older" s_Addresses_grow_older kV21 dc21 pm21 an21 cd21 ct21), sl21⟩)
 (o21 : codeIn K cd21 "Addresses.grow_older" = true)
 (k21 : keepIn K (.ref f21) = true)
 (a22 : nsIn K mainGlobals "standard_times" = some (some (.ref f22)))
 (l22 : K.lookup f22 = some ⟨oc22, od22, .func (fo "standard_times" "standard_times" s_standard_times kV22 dc22 pm22 an22 cd22 ct22), sl22⟩)
 (o22 : codeIn K cd22 "standard_times" = true)
 (k22 : keepIn K (.ref f22) = true)
 (a23 : nsIn K mainGlobals "is_better" = some (some (.ref f23)))
 (l23 : K.lookup f23 = some ⟨oc23, od23, .func (fo "is_better" "is_better" s_is_better kV23 dc23 pm23 an23 cd23 ct23), sl23⟩)
 (o23 : codeIn K cd23 "is_better" = true)
 (k23 : keepIn K (.ref f23) = true)
 (a24 : nsIn K mainGlobals "rank" = some (some (.ref f24)))
 (l24 : K.lookup f24 = some ⟨oc24, od24, .func (fo "rank" "rank" s_rank kV24 dc24 pm24 an24 cd24 ct24), sl24⟩)
 (o24 : codeIn K cd24 "rank" = true)
 (k24 : keepIn K (.ref f24) = true)
 (a25 : findIn K (.ref C5) "__init__" = some (some (.ref f25)))
 (i25 : isFn K (.ref f25) = true)
 (l25 : K.lookup f25 = some ⟨oc25, od25, .func (fo "__init__" "Bridge.__init__" s_Bridge_init kV25 dc25 pm25 an25 cd25 ct25), sl25⟩)
 (o25 : codeIn K cd25 "Bridge.__init__" = true)
 (k25 : keepIn K (.ref f25) = true)
 (a26 : findIn K (.ref C5) "port_at" = some (some (.ref f26)))
 (i26 : isFn K (.ref f26) = true)
 (l26 : K.lookup f26 = some ⟨oc26, od26, .func (fo "port_at" "Bridge.port_at" s_Bridge_port_at kV26 dc26 pm26 an26 cd26 ct26), sl26⟩)
 (o26 : codeIn K cd26 "Bridge.port_at" = true)
 (k26 : keepIn K (.ref f26) = true)
 (a27 : findIn K (.ref C5) "is_root" = some (some (.ref f27)))
 (i27 : isFn K (.ref f27) = true)
 (l27 : K.lookup f27 = some ⟨oc27, od27, .func (fo "is_root" "Bridge.is_root" s_Bridge_is_root kV27 dc27 pm27 an27 cd27 ct27), sl27⟩)
 (o27 : codeIn K cd27 "Bridge.is_root" = true)
 (k27 : keepIn K (.ref f27) = true)
 (a28 : findIn K (.ref C5) "is_led" = some (some (.ref f28)))
 (i28 : isFn K (.ref f28) = true)
 (l28 : K.lookup f28 = some ⟨oc28, od28, .func (fo "is_led" "Bridge.is_led" s_Bridge_is_led kV28 dc28 pm28 an28 cd28 ct28), sl28⟩)
 (o28 : codeIn K cd28 "Bridge.is_led" = true)
 (k28 : keepIn K (.ref f28) = true)
 (a29 : findIn K (.ref C5) "leads_any_net" = some (some (.ref f29)))
 (i29 : isFn K (.ref f29) = true)
 (l29 : K.lookup f29 = some ⟨oc29, od29, .func (fo "leads_any_net" "Bridge.leads_any_net" s_Bridge_leads_any_net kV29 dc29 pm29 an29 cd29 ct29), sl29⟩)
 (o29 : codeIn K cd29 "Bridge.leads_any_net" = true)
 (k29 : keepIn K (.ref f29) = true)
 (a30 : findIn K (.ref C5) "send" = some (some (.ref f30)))
 (i30 : isFn K (.ref f30) = true)
 (l30 : K.lookup f30 = some ⟨oc30, od30, .func (fo "send" "Bridge.send" s_Bridge_send kV30 dc30 pm30 an30 cd30 ct30), sl30⟩)
 (o30 : codeIn K cd30 "Bridge.send" = true)
 (k30 : keepIn K (.ref f30) = true)
 (a31 : findIn K (.ref C5) "tell" = some (some (.ref f31)))
 (i31 : isFn K (.ref f31) = true)
 (l31 : K.lookup f31 = some ⟨oc31, od31, .func (fo "tell" "Bridge.tell" s_Bridge_tell kV31 dc31 pm31 an31 cd31 ct31), sl31⟩)
 (o31 : codeIn K cd31 "Bridge.tell" = true)
 (k31 : keepIn K (.ref f31) = true)
 (a32 : findIn K (.ref C5) "told_age" = some (some (.ref f32)))
 (i32 : isFn K (.ref f32) = true)
 (l32 : K.lookup f32 = some ⟨oc32, od32, .func (fo "told_age" "Bridge.told_age" s_Bridge_told_age kV32 dc32 pm32 an32 cd32 ct32), sl32⟩)
 (o32 : codeIn K cd32 "Bridge.told_age" = true)
 (k32 : keepIn K (.ref f32) = true)
 (a33 : findIn K (.ref C5) "all_tell" = some (some (.ref f33)))
 (i33 : isFn K (.ref f33) = true)
 (l33 : K.lookup f33 = some ⟨oc33, od33, .func (fo "all_tell" "Bridge.all_tell" s_Bridge_all_tell kV33 dc33 pm33 an33 cd33 ct33), sl33⟩)
 (o33 : codeIn K cd33 "Bridge.all_tell" = true)
 (k33 : keepIn K (.ref f33) = true)
 (a34 : findIn K (.ref C5) "start_asking" = some (some (.ref f34)))
 (i34 : isFn K (.ref f34) = true)
 (l34 : K.lookup f34 = some ⟨oc34, od34, .func (fo "start_asking" "Bridge.start_asking" s_Bridge_start_asking kV34 dc34 pm34 an34 cd34 ct34), sl34⟩)
 (o34 : codeIn K cd34 "Bridge.start_asking" = true)
 (k34 : keepIn K (.ref f34) = true)
 (a35 : findIn K (.ref C5) "ask" = some (some (.ref f35)))
 (i35 : isFn K (.ref f35) = true)
 (l35 : K.lookup f35 = some ⟨oc35, od35, .func (fo "ask" "Bridge.ask" s_Bridge_ask kV35 dc35 pm35 an35 cd35 ct35), sl35⟩)
 (o35 : codeIn K cd35 "Bridge.ask" = true)
 (k35 : keepIn K (.ref f35) = true)
 (a36 : findIn K (.ref C5) "choose" = some (some (.ref f36)))
 (i36 : isFn K (.ref f36) = true)
 (l36 : K.lookup f36 = some ⟨oc36, od36, .func (fo "choose" "Bridge.choose" s_Bridge_choose kV36 dc36 pm36 an36 cd36 ct36), sl36⟩)
 (o36 : codeIn K cd36 "Bridge.choose" = true)
 (k36 : keepIn K (.ref f36) = true)
 (a37 : findIn K (.ref C5) "may_be_chosen" = some (some (.ref f37)))
 (i37 : isFn K (.ref f37) = true)
 (l37 : K.lookup f37 = some ⟨oc37, od37, .func (fo "may_be_chosen" "Bridge.may_be_chosen" s_Bridge_may_be_chosen kV37 dc37 pm37 an37 cd37 ct37), sl37⟩)
 (o37 : codeIn K cd37 "Bridge.may_be_chosen" = true)
 (k37 : keepIn K (.ref f37) = true)
 (a38 : findIn K (.ref C5) "own_leader" = some (some (.ref f38)))
 (i38 : isFn K (.ref f38) = true)
 (l38 : K.lookup f38 = some ⟨oc38, od38, .func (fo "own_leader" "Bridge.own_leader" s_Bridge_own_leader kV38 dc38 pm38 an38 cd38 ct38), sl38⟩)
 (o38 : codeIn K cd38 "Bridge.own_leader" = true)
 (k38 : keepIn K (.ref f38) = true)
 (a39 : findIn K (.ref C5) "lead" = some (some (.ref f39)))
 (i39 : isFn K (.ref f39) = true)
 (l39 : K.lookup f39 = some ⟨oc39, od39, .func (fo "lead" "Bridge.lead" s_Bridge_lead kV39 dc39 pm39 an39 cd39 ct39), sl39⟩)
 (o39 : codeIn K cd39 "Bridge.lead" = true)
 (k39 : keepIn K (.ref f39) = true)
 (a40 : findIn K (.ref C5) "is_to_lead" = some (some (.ref f40)))
 (i40 : isFn K (.ref f40) = true)
 (l40 : K.lookup f40 = some ⟨oc40, od40, .func (fo "is_to_lead" "Bridge.is_to_lead" s_Bridge_is_to_lead kV40 dc40 pm40 an40 cd40 ct40), sl40⟩)
 (o40 : codeIn K cd40 "Bridge.is_to_lead" = true)
 (k40 : keepIn K (.ref f40) = true)
 (a41 : findIn K (.ref C5) "update_tree" = some (some (.ref f41)))
 (i41 : isFn K (.ref f41) = true)
 (l41 : K.lookup f41 = some ⟨oc41, od41, .func (fo "update_tree" "Bridge.update_tree" s_Bridge_update_tree kV41 dc41 pm41 an41 cd41 ct41), sl41⟩)
 (o41 : codeIn K cd41 "Bridge.update_tree" = true)
 (k41 : keepIn K (.ref f41) = true)
 (a42 : findIn K (.ref C5) "set_states" = some (some (.ref f42)))
 (i42 : isFn K (.ref f42) = true)
 (l42 : K.lookup f42 = some ⟨oc42, od42, .func (fo "set_states" "Bridge.set_states" s_Bridge_set_states kV42 dc42 pm42 an42 cd42 ct42), sl42⟩)
 (o42 : codeIn K cd42 "Bridge.set_states" = true)
 (k42 : keepIn K (.ref f42) = true)
 (a43 : findIn K (.ref C5) "set_state" = some (some (.ref f43)))
 (i43 : isFn K (.ref f43) = true)
 (l43 : K.lookup f43 = some ⟨oc43, od43, .func (fo "set_state" "Bridge.set_state" s_Bridge_set_state kV43 dc43 pm43 an43 cd43 ct43), sl43⟩)
 (o43 : codeIn K cd43 "Bridge.set_state" = true)
 (k43 : keepIn K (.ref f43) = true)
 (a44 : findIn K (.ref C5) "block" = some (some (.ref f44)))
 (i44 : isFn K (.ref f44) = true)
 (l44 : K.lookup f44 = some ⟨oc44, od44, .func (fo "block" "Bridge.block" s_Bridge_block kV44 dc44 pm44 an44 cd44 ct44), sl44⟩)
 (o44 : codeIn K cd44 "Bridge.block" = true)
 (k44 : keepIn K (.ref f44) = true)
 (a45 : findIn K (.ref C5) "settle" = some (some (.ref f45)))
 (i45 : isFn K (.ref f45) = true)
 (l45 : K.lookup f45 = some ⟨oc45, od45, .func (fo "settle" "Bridge.settle" s_Bridge_settle kV45 dc45 pm45 an45 cd45 ct45), sl45⟩)
 (o45 : codeIn K cd45 "Bridge.settle" = true)
 (k45 : keepIn K (.ref f45) = true)
 (a46 : findIn K (.ref C5) "find_change" = some (some (.ref f46)))
 (i46 : isFn K (.ref f46) = true)
 (l46 : K.lookup f46 = some ⟨oc46, od46, .func (fo "find_change" "Bridge.find_change" s_Bridge_find_change kV46 dc46 pm46 an46 cd46 ct46), sl46⟩)
 (o46 : codeIn K cd46 "Bridge.find_change" = true)
 (k46 : keepIn K (.ref f46) = true)
 (a47 : findIn K (.ref C5) "become_root" = some (some (.ref f47)))
 (i47 : isFn K (.ref f47) = true)
 (l47 : K.lookup f47 = some ⟨oc47, od47, .func (fo "become_root" "Bridge.become_root" s_Bridge_become_root kV47 dc47 pm47 an47 cd47 ct47), sl47⟩)
 (o47 : codeIn K cd47 "Bridge.become_root" = true)
 (k47 : keepIn K (.ref f47) = true)
 (a48 : nsIn K mainGlobals "take_frame" = some (some (.ref f48)))
 (l48 : K.lookup f48 = some ⟨oc48, od48, .func (fo "take_frame" "take_frame" s_take_frame kV48 dc48 pm48 an48 cd48 ct48), sl48⟩)
 (o48 : codeIn K cd48 "take_frame" = true)
 (k48 : keepIn K (.ref f48) = true)
 (a49 : nsIn K mainGlobals "take_message" = some (some (.ref f49)))
 (l49 : K.lookup f49 = some ⟨oc49, od49, .func (fo "take_message" "take_message" s_take_message kV49 dc49 pm49 an49 cd49 ct49), sl49⟩)
 (o49 : codeIn K cd49 "take_message" = true)
 (k49 : keepIn K (.ref f49) = true)
 (a50 : nsIn K mainGlobals "take_changed" = some (some (.ref f50)))
 (l50 : K.lookup f50 = some ⟨oc50, od50, .func (fo "take_changed" "take_changed" s_take_changed kV50 dc50 pm50 an50 cd50 ct50), sl50⟩)
 (o50 : codeIn K cd50 "take_changed" = true)
 (k50 : keepIn K (.ref f50) = true)
 (a51 : nsIn K mainGlobals "take_better" = some (some (.ref f51)))
 (l51 : K.lookup f51 = some ⟨oc51, od51, .func (fo "take_better" "take_better" s_take_better kV51 dc51 pm51 an51 cd51 ct51), sl51⟩)
 (o51 : codeIn K cd51 "take_better" = true)
 (k51 : keepIn K (.ref f51) = true)
 (a52 : nsIn K mainGlobals "stop_being_root" = some (some (.ref f52)))
 (l52 : K.lookup f52 = some ⟨oc52, od52, .func (fo "stop_being_root" "stop_being_root" s_stop_being_root kV52 dc52 pm52 an52 cd52 ct52), sl52⟩)
 (o52 : codeIn K cd52 "stop_being_root" = true)
 (k52 : keepIn K (.ref f52) = true)
 (a53 : nsIn K mainGlobals "follow_root" = some (some (.ref f53)))
 (l53 : K.lookup f53 = some ⟨oc53, od53, .func (fo "follow_root" "follow_root" s_follow_root kV53 dc53 pm53 an53 cd53 ct53), sl53⟩)
 (o53 : codeIn K cd53 "follow_root" = true)
 (k53 : keepIn K (.ref f53) = true)
 (a54 : nsIn K mainGlobals "take_other" = some (some (.ref f54)))
 (l54 : K.lookup f54 = some ⟨oc54, od54, .func (fo "take_other" "take_other" s_take_other kV54 dc54 pm54 an54 cd54 ct54), sl54⟩)
 (o54 : codeIn K cd54 "take_other" = true)
 (k54 : keepIn K (.ref f54) = true)
 (a55 : nsIn K mainGlobals "pass_on" = some (some (.ref f55)))
 (l55 : K.lookup f55 = some ⟨oc55, od55, .func (fo "pass_on" "pass_on" s_pass_on kV55 dc55 pm55 an55 cd55 ct55), sl55⟩)
 (o55 : codeIn K cd55 "pass_on" = true)
 (k55 : keepIn K (.ref f55) = true)
 (a56 : nsIn K mainGlobals "pass_second" = some (some (.ref f56)))
 (l56 : K.lookup f56 = some ⟨oc56, od56, .func (fo "pass_second" "pass_second" s_pass_second kV56 dc56 pm56 an56 cd56 ct56), sl56⟩)
 (o56 : codeIn K cd56 "pass_second" = true)
 (k56 : keepIn K (.ref f56) = true)
 (a57 : nsIn K mainGlobals "one_more" = some (some (.ref f57)))
 (l57 : K.lookup f57 = some ⟨oc57, od57, .func (fo "one_more" "one_more" s_one_more kV57 dc57 pm57 an57 cd57 ct57), sl57⟩)
 (o57 : codeIn K cd57 "one_more" = true)
 (k57 : keepIn K (.ref f57) = true)
 (a58 : nsIn K mainGlobals "is_out" = some (some (.ref f58)))
 (l58 : K.lookup f58 = some ⟨oc58, od58, .func (fo "is_out" "is_out" s_is_out kV58 dc58 pm58 an58 cd58 ct58), sl58⟩)
 (o58 : codeIn K cd58 "is_out" = true)
 (k58 : keepIn K (.ref f58) = true)
 (a59 : nsIn K mainGlobals "count_telling" = some (some (.ref f59)))
 (l59 : K.lookup f59 = some ⟨oc59, od59, .func (fo "count_telling" "count_telling" s_count_telling kV59 dc59 pm59 an59 cd59 ct59), sl59⟩)
 (o59 : codeIn K cd59 "count_telling" = true)
 (k59 : keepIn K (.ref f59) = true)
 (a60 : nsIn K mainGlobals "count_asking" = some (some (.ref f60)))
 (l60 : K.lookup f60 = some ⟨oc60, od60, .func (fo "count_asking" "count_asking" s_count_asking kV60 dc60 pm60 an60 cd60 ct60), sl60⟩)
 (o60 : codeIn K cd60 "count_asking" = true)
 (k60 : keepIn K (.ref f60) = true)
 (a61 : nsIn K mainGlobals "count_changing" = some (some (.ref f61)))
 (l61 : K.lookup f61 = some ⟨oc61, od61, .func (fo "count_changing" "count_changing" s_count_changing kV61 dc61 pm61 an61 cd61 ct61), sl61⟩)
 (o61 : codeIn K cd61 "count_changing" = true)
 (k61 : keepIn K (.ref f61) = true)
 (a62 : nsIn K mainGlobals "count_age" = some (some (.ref f62)))
 (l62 : K.lookup f62 = some ⟨oc62, od62, .func (fo "count_age" "count_age" s_count_age kV62 dc62 pm62 an62 cd62 ct62), sl62⟩)
 (o62 : codeIn K cd62 "count_age" = true)
 (k62 : keepIn K (.ref f62) = true)
 (a63 : nsIn K mainGlobals "count_wait" = some (some (.ref f63)))
 (l63 : K.lookup f63 = some ⟨oc63, od63, .func (fo "count_wait" "count_wait" s_count_wait kV63 dc63 pm63 an63 cd63 ct63), sl63⟩)
 (o63 : codeIn K cd63 "count_wait" = true)
 (k63 : keepIn K (.ref f63) = true)
 (a64 : nsIn K mainGlobals "count_hold" = some (some (.ref f64)))
 (l64 : K.lookup f64 = some ⟨oc64, od64, .func (fo "count_hold" "count_hold" s_count_hold kV64 dc64 pm64 an64 cd64 ct64), sl64⟩)
 (o64 : codeIn K cd64 "count_hold" = true)
 (k64 : keepIn K (.ref f64) = true)
 (a65 : nsIn K mainGlobals "address_seconds" = some (some (.ref f65)))
 (l65 : K.lookup f65 = some ⟨oc65, od65, .func (fo "address_seconds" "address_seconds" s_address_seconds kV65 dc65 pm65 an65 cd65 ct65), sl65⟩)
 (o65 : codeIn K cd65 "address_seconds" = true)
 (k65 : keepIn K (.ref f65) = true)
 (a66 : nsIn K mainGlobals "answers" = some (some (.ref f66)))
 (l66 : K.lookup f66 = some ⟨oc66, od66, .func (fo "answers" "answers" s_answers kV66 dc66 pm66 an66 cd66 ct66), sl66⟩)
 (o66 : codeIn K cd66 "answers" = true)
 (k66 : keepIn K (.ref f66) = true)
 (a67 : nsIn K mainGlobals "call_length" = some (some (.ref f67)))
 (l67 : K.lookup f67 = some ⟨oc67, od67, .func (fo "call_length" "call_length" s_call_length kV67 dc67 pm67 an67 cd67 ct67), sl67⟩)
 (o67 : codeIn K cd67 "call_length" = true)
 (k67 : keepIn K (.ref f67) = true)
 (a68 : nsIn K mainGlobals "answer_call" = some (some (.ref f68)))
 (l68 : K.lookup f68 = some ⟨oc68, od68, .func (fo "answer_call" "answer_call" s_answer_call kV68 dc68 pm68 an68 cd68 ct68), sl68⟩)
 (o68 : codeIn K cd68 "answer_call" = true)
 (k68 : keepIn K (.ref f68) = true)
 (a69 : nsIn K mainGlobals "refusal" = some (some (.ref f69)))
 (l69 : K.lookup f69 = some ⟨oc69, od69, .func (fo "refusal" "refusal" s_refusal kV69 dc69 pm69 an69 cd69 ct69), sl69⟩)
 (o69 : codeIn K cd69 "refusal" = true)
 (k69 : keepIn K (.ref f69) = true)
 (a70 : nsIn K mainGlobals "br_on" = some (some (.ref f70)))
 (l70 : K.lookup f70 = some ⟨oc70, od70, .func (fo "br_on" "br_on" s_br_on kV70 dc70 pm70 an70 cd70 ct70), sl70⟩)
 (o70 : codeIn K cd70 "br_on" = true)
 (k70 : keepIn K (.ref f70) = true)
 (a71 : nsIn K mainGlobals "br_off" = some (some (.ref f71)))
 (l71 : K.lookup f71 = some ⟨oc71, od71, .func (fo "br_off" "br_off" s_br_off kV71 dc71 pm71 an71 cd71 ct71), sl71⟩)
 (o71 : codeIn K cd71 "br_off" = true)
 (k71 : keepIn K (.ref f71) = true)
 (a72 : nsIn K mainGlobals "br_frame" = some (some (.ref f72)))
 (l72 : K.lookup f72 = some ⟨oc72, od72, .func (fo "br_frame" "br_frame" s_br_frame kV72 dc72 pm72 an72 cd72 ct72), sl72⟩)
 (o72 : codeIn K cd72 "br_frame" = true)
 (k72 : keepIn K (.ref f72) = true)
 (a73 : nsIn K mainGlobals "br_second" = some (some (.ref f73)))
 (l73 : K.lookup f73 = some ⟨oc73, od73, .func (fo "br_second" "br_second" s_br_second kV73 dc73 pm73 an73 cd73 ct73), sl73⟩)
 (o73 : codeIn K cd73 "br_second" = true)
 (k73 : keepIn K (.ref f73) = true)
 (a74 : nsIn K mainGlobals "br_port" = some (some (.ref f74)))
 (l74 : K.lookup f74 = some ⟨oc74, od74, .func (fo "br_port" "br_port" s_br_port kV74 dc74 pm74 an74 cd74 ct74), sl74⟩)
 (o74 : codeIn K cd74 "br_port" = true)
 (k74 : keepIn K (.ref f74) = true)
 (a75 : nsIn K mainGlobals "br_root" = some (some (.ref f75)))
 (l75 : K.lookup f75 = some ⟨oc75, od75, .func (fo "br_root" "br_root" s_br_root kV75 dc75 pm75 an75 cd75 ct75), sl75⟩)
 (o75 : codeIn K cd75 "br_root" = true)
 (k75 : keepIn K (.ref f75) = true)
 (a76 : nsIn K mainGlobals "br_find" = some (some (.ref f76)))
 (l76 : K.lookup f76 = some ⟨oc76, od76, .func (fo "br_find" "br_find" s_br_find kV76 dc76 pm76 an76 cd76 ct76), sl76⟩)
 (o76 : codeIn K cd76 "br_find" = true)
 (k76 : keepIn K (.ref f76) = true)
 (a77 : nsIn K mainGlobals "take_sent" = some (some (.ref f77)))
 (l77 : K.lookup f77 = some ⟨oc77, od77, .func (fo "take_sent" "take_sent" s_take_sent kV77 dc77 pm77 an77 cd77 ct77), sl77⟩)
 (o77 : codeIn K cd77 "take_sent" = true)
 (k77 : keepIn K (.ref f77) = true) :
 ∃ t : Adr, PySem.W.nsIn K mainGlobals "answers" = some (some (.ref t.f_answers)) ∧ Txt K mg t := by
  refine ⟨⟨C0, C1, C2, C3, C4, C5, f0, fo "__init__" "Leader.__init__" s_Leader_init kV0 dc0 pm0 an0 cd0 ct0, f1, fo "__init__" "Times.__init__" s_Times_init kV1 dc1 pm1 an1 cd1 ct1, f2, fo "__init__" "Said.__init__" s_Said_init kV2 dc2 pm2 an2 cd2 ct2, f3, fo "__init__" "Port.__init__" s_Port_init kV3 dc3 pm3 an3 cd3 ct3, f4, fo "turn_off" "Port.turn_off" s_Port_turn_off kV4 dc4 pm4 an4 cd4 ct4, f5, fo "forget_notes" "Port.forget_notes" s_Port_forget_notes kV5 dc5 pm5 an5 cd5 ct5, f6, fo "start_forwarding" "Port.start_forwarding" s_Port_start_forwarding kV6 dc6 pm6 an6 cd6 ct6, f7, fo "number_row" "number_row" s_number_row kV7 dc7 pm7 an7 cd7 ct7, f8, fo "row_number" "row_number" s_row_number kV8 dc8 pm8 an8 cd8 ct8, f9, fo "message_frame" "message_frame" s_message_frame kV9 dc9 pm9 an9 cd9 ct9, f10, fo "changed_frame" "changed_frame" s_changed_frame kV10 dc10 pm10 an10 cd10 ct10, f11, fo "said_frame" "said_frame" s_said_frame kV11 dc11 pm11 an11 cd11 ct11, f12, fo "notes_byte" "notes_byte" s_notes_byte kV12 dc12 pm12 an12 cd12 ct12, f13, fo "message_body" "message_body" s_message_body kV13 dc13 pm13 an13 cd13 ct13, f14, fo "is_changed" "is_changed" s_is_changed kV14 dc14 pm14 an14 cd14 ct14, f15, fo "read_said" "read_said" s_read_said kV15 dc15 pm15 an15 cd15 ct15, f16, fo "row_seconds" "row_seconds" s_row_seconds kV16 dc16 pm16 an16 cd16 ct16, f17, fo "__init__" "Addresses.__init__" s_Addresses_init kV17 dc17 pm17 an17 cd17 ct17, f18, fo "hear" "Addresses.hear" s_Addresses_hear kV18 dc18 pm18 an18 cd18 ct18, f19, fo "place_of" "Addresses.place_of" s_Addresses_place_of kV19 dc19 pm19 an19 cd19 ct19, f20, fo "forget_place" "Addresses.forget_place" s_Addresses_forget_place kV20 dc20 pm20 an20 cd20 ct20, f21, fo "grow_older" "Addresses.grow_older" s_Addresses_grow_older kV21 dc21 pm21 an21 cd21 ct21, f22, fo "standard_times" "standard_times" s_standard_times kV22 dc22 pm22 an22 cd22 ct22, f23, fo "is_better" "is_better" s_is_better kV23 dc23 pm23 an23 cd23 ct23, f24, fo "rank" "rank" s_rank kV24 dc24 pm24 an24 cd24 ct24, f25, fo "__init__" "Bridge.__init__" s_Bridge_init kV25 dc25 pm25 an25 cd25 ct25, f26, fo "port_at" "Bridge.port_at" s_Bridge_port_at kV26 dc26 pm26 an26 cd26 ct26, f27, fo "is_root" "Bridge.is_root" s_Bridge_is_root kV27 dc27 pm27 an27 cd27 ct27, f28, fo "is_led" "Bridge.is_led" s_Bridge_is_led kV28 dc28 pm28 an28 cd28 ct28, f29, fo "leads_any_net" "Bridge.leads_any_net" s_Bridge_leads_any_net kV29 dc29 pm29 an29 cd29 ct29, f30, fo "send" "Bridge.send" s_Bridge_send kV30 dc30 pm30 an30 cd30 ct30, f31, fo "tell" "Bridge.tell" s_Bridge_tell kV31 dc31 pm31 an31 cd31 ct31, f32, fo "told_age" "Bridge.told_age" s_Bridge_told_age kV32 dc32 pm32 an32 cd32 ct32, f33, fo "all_tell" "Bridge.all_tell" s_Bridge_all_tell kV33 dc33 pm33 an33 cd33 ct33, f34, fo "start_asking" "Bridge.start_asking" s_Bridge_start_asking kV34 dc34 pm34 an34 cd34 ct34, f35, fo "ask" "Bridge.ask" s_Bridge_ask kV35 dc35 pm35 an35 cd35 ct35, f36, fo "choose" "Bridge.choose" s_Bridge_choose kV36 dc36 pm36 an36 cd36 ct36, f37, fo "may_be_chosen" "Bridge.may_be_chosen" s_Bridge_may_be_chosen kV37 dc37 pm37 an37 cd37 ct37, f38, fo "own_leader" "Bridge.own_leader" s_Bridge_own_leader kV38 dc38 pm38 an38 cd38 ct38, f39, fo "lead" "Bridge.lead" s_Bridge_lead kV39 dc39 pm39 an39 cd39 ct39, f40, fo "is_to_lead" "Bridge.is_to_lead" s_Bridge_is_to_lead kV40 dc40 pm40 an40 cd40 ct40, f41, fo "update_tree" "Bridge.update_tree" s_Bridge_update_tree kV41 dc41 pm41 an41 cd41 ct41, f42, fo "set_states" "Bridge.set_states" s_Bridge_set_states kV42 dc42 pm42 an42 cd42 ct42, f43, fo "set_state" "Bridge.set_state" s_Bridge_set_state kV43 dc43 pm43 an43 cd43 ct43, f44, fo "block" "Bridge.block" s_Bridge_block kV44 dc44 pm44 an44 cd44 ct44, f45, fo "settle" "Bridge.settle" s_Bridge_settle kV45 dc45 pm45 an45 cd45 ct45, f46, fo "find_change" "Bridge.find_change" s_Bridge_find_change kV46 dc46 pm46 an46 cd46 ct46, f47, fo "become_root" "Bridge.become_root" s_Bridge_become_root kV47 dc47 pm47 an47 cd47 ct47, f48, fo "take_frame" "take_frame" s_take_frame kV48 dc48 pm48 an48 cd48 ct48, f49, fo "take_message" "take_message" s_take_message kV49 dc49 pm49 an49 cd49 ct49, f50, fo "take_changed" "take_changed" s_take_changed kV50 dc50 pm50 an50 cd50 ct50, f51, fo "take_better" "take_better" s_take_better kV51 dc51 pm51 an51 cd51 ct51, f52, fo "stop_being_root" "stop_being_root" s_stop_being_root kV52 dc52 pm52 an52 cd52 ct52, f53, fo "follow_root" "follow_root" s_follow_root kV53 dc53 pm53 an53 cd53 ct53, f54, fo "take_other" "take_other" s_take_other kV54 dc54 pm54 an54 cd54 ct54, f55, fo "pass_on" "pass_on" s_pass_on kV55 dc55 pm55 an55 cd55 ct55, f56, fo "pass_second" "pass_second" s_pass_second kV56 dc56 pm56 an56 cd56 ct56, f57, fo "one_more" "one_more" s_one_more kV57 dc57 pm57 an57 cd57 ct57, f58, fo "is_out" "is_out" s_is_out kV58 dc58 pm58 an58 cd58 ct58, f59, fo "count_telling" "count_telling" s_count_telling kV59 dc59 pm59 an59 cd59 ct59, f60, fo "count_asking" "count_asking" s_count_asking kV60 dc60 pm60 an60 cd60 ct60, f61, fo "count_changing" "count_changing" s_count_changing kV61 dc61 pm61 an61 cd61 ct61, f62, fo "count_age" "count_age" s_count_age kV62 dc62 pm62 an62 cd62 ct62, f63, fo "count_wait" "count_wait" s_count_wait kV63 dc63 pm63 an63 cd63 ct63, f64, fo "count_hold" "count_hold" s_count_hold kV64 dc64 pm64 an64 cd64 ct64, f65, fo "address_seconds" "address_seconds" s_address_seconds kV65 dc65 pm65 an65 cd65 ct65, f66, fo "answers" "answers" s_answers kV66 dc66 pm66 an66 cd66 ct66, f67, fo "call_length" "call_length" s_call_length kV67 dc67 pm67 an67 cd67 ct67, f68, fo "answer_call" "answer_call" s_answer_call kV68 dc68 pm68 an68 cd68 ct68, f69, fo "refusal" "refusal" s_refusal kV69 dc69 pm69 an69 cd69 ct69, f70, fo "br_on" "br_on" s_br_on kV70 dc70 pm70 an70 cd70 ct70, f71, fo "br_off" "br_off" s_br_off kV71 dc71 pm71 an71 cd71 ct71, f72, fo "br_frame" "br_frame" s_br_frame kV72 dc72 pm72 an72 cd72 ct72, f73, fo "br_second" "br_second" s_br_second kV73 dc73 pm73 an73 cd73 ct73, f74, fo "br_port" "br_port" s_br_port kV74 dc74 pm74 an74 cd74 ct74, f75, fo "br_root" "br_root" s_br_root kV75 dc75 pm75 an75 cd75 ct75, f76, fo "br_find" "br_find" s_br_find kV76 dc76 pm76 an76 cd76 ct76, f77, fo "take_sent" "take_sent" s_take_sent kV77 dc77 pm77 an77 cd77 ct77, A0⟩, a66, ?_⟩
  exact ⟨
    ⟨_, mg_of X G h0, _, rfl⟩,
    ⟨_, mg_of X G h1, _, rfl⟩,
    ⟨_, mg_of X G h2, _, rfl⟩,
    ⟨_, mg_of X G h3, _, rfl⟩,
    ⟨_, mg_of X G h4, _, rfl⟩,
    ⟨_, mg_of X G h5, _, rfl⟩,
    ⟨_, mg_of X G h6, _, rfl⟩,
    ⟨_, mg_of X G h7, _, rfl⟩,
    ⟨_, mg_of X G h8, _, rfl⟩,
    ⟨_, mg_of X G h9, _, rfl⟩,
    ⟨_, mg_of X G h10, _, rfl⟩,
    ⟨_, mg_of X G h11, _, rfl⟩,
    ⟨_, mg_of X G h12, _, rfl⟩,
    ⟨_, mg_of X G h13, _, rfl⟩,
    ⟨_, mg_of X G h14, _, rfl⟩,
    ⟨_, mg_of X G h15, _, rfl⟩,
    ⟨_, mg_of X G h16, _, rfl⟩,
    ⟨_, mg_of X G h17, _, rfl⟩,
    ⟨_, mg_of X G h18, _, rfl⟩,
    ⟨_, mg_of X G h19, _, rfl⟩,
    ⟨_, mg_of X G h20, _, rfl⟩,
    ⟨_, mg_of X G h21, _, rfl⟩,
    ⟨_, mg_of X G h22, _, rfl⟩,
    ⟨_, mg_of X G h23, _, rfl⟩,
    mg_of X G h24,
    ⟨_, _, _, h25, ⟨rfl, rfl, rfl⟩, rfl, e0, by decide⟩,
    ⟨_, mg_of X G h27, _, rfl⟩,
    ⟨_, mg_of X G h28, _, rfl⟩,
    ⟨_, mg_of X G h29, _, rfl⟩,
    ⟨_, mg_of X G h30, _, rfl⟩,
    mg_none_of X G h31,
    mg_none_of X G h32,
    mg_none_of X G h33,
    mg_none_of X G h34,
    mg_none_of X G h35,
    mg_of X G h36,
    ⟨h37, h38, h39, h40⟩,
    ⟨h41, a0, i0, h42⟩,
    h43,
    h44,
    h45,
    h46,
    mg_of X G h47,
    ⟨h48, h49, h50, h51⟩,
    ⟨h52, a1, i1, h53⟩,
    h54,
    h55,
    h56,
    mg_of X G h57,
    ⟨h58, h59, h60, h61⟩,
    ⟨h62, a2, i2, h63⟩,
    h64,
    h65,
    h66,
    h67,
    h68,
    mg_of X G h69,
    ⟨h70, h71, h72, h73⟩,
    ⟨h74, a3, i3, h75⟩,
    h76,
    h77,
    h78,
    h79,
    h80,
    h81,
    h82,
    h83,
    h84,
    h85,
    mg_of X G h86,
    ⟨h87, h88, h89, h90⟩,
    ⟨h91, a17, i17, h92⟩,
    h93,
    mg_of X G h94,
    ⟨h95, h96, h97, h98⟩,
    ⟨h99, a25, i25, h100⟩,
    h101,
    h102,
    h103,
    h104,
    h105,
    h106,
    h107,
    h108,
    h109,
    h110,
    h111,
    h112,
    h113,
    fm l0 o0 k0,
    (fm l0 o0 k0).binds (by walk_at "b5"),
    fm l1 o1 k1,
    (fm l1 o1 k1).binds (by walk_at "b4"),
    fm l2 o2 k2,
    (fm l2 o2 k2).binds (by walk_at "b6"),
    fm l3 o3 k3,
    (fm l3 o3 k3).binds (by walk_at "b2"),
    fm l4 o4 k4,
    (fm l4 o4 k4).binds (by walk_at "b1"),
    ⟨a4, i4, k4⟩,
    fm l5 o5 k5,
    (fm l5 o5 k5).binds (by walk_at "b1"),
    ⟨a5, i5, k5⟩,
    fm l6 o6 k6,
    (fm l6 o6 k6).binds (by walk_at "b1"),
    ⟨a6, i6, k6⟩,
    fm l7 o7 k7,
    (fm l7 o7 k7).binds (by walk_at "b2"),
    mg_of X G a7,
    fm l8 o8 k8,
    (fm l8 o8 k8).binds (by walk_at "b1"),
    mg_of X G a8,
    fm l9 o9 k9,
    (fm l9 o9 k9).binds (by walk_at "b2"),
    mg_of X G a9,
    fm l10 o10 k10,
    (fm l10 o10 k10).binds (by walk_at "b1"),
    mg_of X G a10,
    fm l11 o11 k11,
    (fm l11 o11 k11).binds (by walk_at "b2"),
    mg_of X G a11,
    fm l12 o12 k12,
    (fm l12 o12 k12).binds (by walk_at "b1"),
    mg_of X G a12,
    fm l13 o13 k13,
    (fm l13 o13 k13).binds (by walk_at "b1"),
    mg_of X G a13,
    fm l14 o14 k14,
    (fm l14 o14 k14).binds (by walk_at "b1"),
    mg_of X G a14,
    fm l15 o15 k15,
    (fm l15 o15 k15).binds (by walk_at "b1"),
    mg_of X G a15,
    fm l16 o16 k16,
    (fm l16 o16 k16).binds (by walk_at "b1"),
    mg_of X G a16,
    fm l17 o17 k17,
    (fm l17 o17 k17).binds (by walk_at "b1"),
    fm l18 o18 k18,
    (fm l18 o18 k18).binds (by walk_at "b3"),
    ⟨a18, i18, k18⟩,
    fm l19 o19 k19,
    (fm l19 o19 k19).binds (by walk_at "b2"),
    ⟨a19, i19, k19⟩,
    fm l20 o20 k20,
    (fm l20 o20 k20).binds (by walk_at "b2"),
    ⟨a20, i20, k20⟩,
    fm l21 o21 k21,
    (fm l21 o21 k21).binds (by walk_at "b2"),
    ⟨a21, i21, k21⟩,
    fm l22 o22 k22,
    (fm l22 o22 k22).binds (by walk_at "b0"),
    mg_of X G a22,
    fm l23 o23 k23,
    (fm l23 o23 k23).binds (by walk_at "b3"),
    mg_of X G a23,
    fm l24 o24 k24,
    (fm l24 o24 k24).binds (by walk_at "b1"),
    mg_of X G a24,
    fm l25 o25 k25,
    (fm l25 o25 k25).binds (by walk_at "b3"),
    fm l26 o26 k26,
    (fm l26 o26 k26).binds (by walk_at "b2"),
    ⟨a26, i26, k26⟩,
    fm l27 o27 k27,
    (fm l27 o27 k27).binds (by walk_at "b1"),
    ⟨a27, i27, k27⟩,
    fm l28 o28 k28,
    (fm l28 o28 k28).binds (by walk_at "b2"),
    ⟨a28, i28, k28⟩,
    fm l29 o29 k29,
    (fm l29 o29 k29).binds (by walk_at "b1"),
    ⟨a29, i29, k29⟩,
    fm l30 o30 k30,
    (fm l30 o30 k30).binds (by walk_at "b3"),
    ⟨a30, i30, k30⟩,
    fm l31 o31 k31,
    (fm l31 o31 k31).binds (by walk_at "b2"),
    ⟨a31, i31, k31⟩,
    fm l32 o32 k32,
    (fm l32 o32 k32).binds (by walk_at "b1"),
    ⟨a32, i32, k32⟩,
    fm l33 o33 k33,
    (fm l33 o33 k33).binds (by walk_at "b1"),
    ⟨a33, i33, k33⟩,
    fm l34 o34 k34,
    (fm l34 o34 k34).binds (by walk_at "b1"),
    ⟨a34, i34, k34⟩,
    fm l35 o35 k35,
    (fm l35 o35 k35).binds (by walk_at "b1"),
    ⟨a35, i35, k35⟩,
    fm l36 o36 k36,
    (fm l36 o36 k36).binds (by walk_at "b1"),
    ⟨a36, i36, k36⟩,
    fm l37 o37 k37,
    (fm l37 o37 k37).binds (by walk_at "b2"),
    ⟨a37, i37, k37⟩,
    fm l38 o38 k38,
    (fm l38 o38 k38).binds (by walk_at "b2"),
    ⟨a38, i38, k38⟩,
    fm l39 o39 k39,
    (fm l39 o39 k39).binds (by walk_at "b2"),
    ⟨a39, i39, k39⟩,
    fm l40 o40 k40,
    (fm l40 o40 k40).binds (by walk_at "b2"),
    ⟨a40, i40, k40⟩,
    fm l41 o41 k41,
    (fm l41 o41 k41).binds (by walk_at "b1"),
    ⟨a41, i41, k41⟩,
    fm l42 o42 k42,
    (fm l42 o42 k42).binds (by walk_at "b1"),
    ⟨a42, i42, k42⟩,
    fm l43 o43 k43,
    (fm l43 o43 k43).binds (by walk_at "b2"),
    ⟨a43, i43, k43⟩,
    fm l44 o44 k44,
    (fm l44 o44 k44).binds (by walk_at "b2"),
    ⟨a44, i44, k44⟩,
    fm l45 o45 k45,
    (fm l45 o45 k45).binds (by walk_at "b1"),
    ⟨a45, i45, k45⟩,
    fm l46 o46 k46,
    (fm l46 o46 k46).binds (by walk_at "b1"),
    ⟨a46, i46, k46⟩,
    fm l47 o47 k47,
    (fm l47 o47 k47).binds (by walk_at "b1"),
    ⟨a47, i47, k47⟩,
    fm l48 o48 k48,
    (fm l48 o48 k48).binds (by walk_at "b3"),
    mg_of X G a48,
    fm l49 o49 k49,
    (fm l49 o49 k49).binds (by walk_at "b3"),
    mg_of X G a49,
    fm l50 o50 k50,
    (fm l50 o50 k50).binds (by walk_at "b2"),
    mg_of X G a50,
    fm l51 o51 k51,
    (fm l51 o51 k51).binds (by walk_at "b3"),
    mg_of X G a51,
    fm l52 o52 k52,
    (fm l52 o52 k52).binds (by walk_at "b1"),
    mg_of X G a52,
    fm l53 o53 k53,
    (fm l53 o53 k53).binds (by walk_at "b2"),
    mg_of X G a53,
    fm l54 o54 k54,
    (fm l54 o54 k54).binds (by walk_at "b3"),
    mg_of X G a54,
    fm l55 o55 k55,
    (fm l55 o55 k55).binds (by walk_at "b4"),
    mg_of X G a55,
    fm l56 o56 k56,
    (fm l56 o56 k56).binds (by walk_at "b1"),
    mg_of X G a56,
    fm l57 o57 k57,
    (fm l57 o57 k57).binds (by walk_at "b1"),
    mg_of X G a57,
    fm l58 o58 k58,
    (fm l58 o58 k58).binds (by walk_at "b2"),
    mg_of X G a58,
    fm l59 o59 k59,
    (fm l59 o59 k59).binds (by walk_at "b1"),
    mg_of X G a59,
    fm l60 o60 k60,
    (fm l60 o60 k60).binds (by walk_at "b1"),
    mg_of X G a60,
    fm l61 o61 k61,
    (fm l61 o61 k61).binds (by walk_at "b1"),
    mg_of X G a61,
    fm l62 o62 k62,
    (fm l62 o62 k62).binds (by walk_at "b2"),
    mg_of X G a62,
    fm l63 o63 k63,
    (fm l63 o63 k63).binds (by walk_at "b2"),
    mg_of X G a63,
    fm l64 o64 k64,
    (fm l64 o64 k64).binds (by walk_at "b2"),
    mg_of X G a64,
    fm l65 o65 k65,
    (fm l65 o65 k65).binds (by walk_at "b1"),
    mg_of X G a65,
    fm l66 o66 k66,
    (fm l66 o66 k66).binds (by walk_at "b1"),
    mg_of X G a66,
    fm l67 o67 k67,
    (fm l67 o67 k67).binds (by walk_at "b2"),
    mg_of X G a67,
    fm l68 o68 k68,
    (fm l68 o68 k68).binds (by walk_at "b2"),
    mg_of X G a68,
    fm l69 o69 k69,
    (fm l69 o69 k69).binds (by walk_at "b0"),
    mg_of X G a69,
    fm l70 o70 k70,
    (fm l70 o70 k70).binds (by walk_at "b3"),
    mg_of X G a70,
    fm l71 o71 k71,
    (fm l71 o71 k71).binds (by walk_at "b2"),
    mg_of X G a71,
    fm l72 o72 k72,
    (fm l72 o72 k72).binds (by walk_at "b3"),
    mg_of X G a72,
    fm l73 o73 k73,
    (fm l73 o73 k73).binds (by walk_at "b1"),
    mg_of X G a73,
    fm l74 o74 k74,
    (fm l74 o74 k74).binds (by walk_at "b2"),
    mg_of X G a74,
    fm l75 o75 k75,
    (fm l75 o75 k75).binds (by walk_at "b1"),
    mg_of X G a75,
    fm l76 o76 k76,
    (fm l76 o76 k76).binds (by walk_at "b2"),
    mg_of X G a76,
    fm l77 o77 k77,
    (fm l77 o77 k77).binds (by walk_at "b1"),
    mg_of X G a77⟩
theorem Txt.top_binds {K : PySem.W.Frag} {mg : Str → Option Value} {t : Adr} (T : Txt K mg t) : ∀ (s : Shared) (us : List Value), us.length = (["calls"] : List Str).length → BindsTo s t.fd_answers ⟨us, []⟩ ((["calls"] : List Str).zip us) := by
  obtain ⟨oc, od, kV, doc, pm, an, cdv, ct, osl, e, lk, hcd⟩ := T.F_answers.ex
  rw [e]
  exact fun s us hu => match us, hu with | [_], _ => .of_eq rfl
end Tb
def PySem.W.Fast.tw13232888299830013386 : Unit := ()
def PySem.W.Fast.tw15194366633797103786 : Unit := ()
def PySem.W.Fast.tw11907899143578540026 : Unit := ()
def PySem.W.Fast.tw12113243203498601540 : Unit := ()
def PySem.W.Fast.tw13835121409164536411 : Unit := ()
def PySem.W.Fast.tw13670697876096631567 : Unit := ()
def PySem.W.Fast.tw14756141119899411548 : Unit := ()
def PySem.W.Fast.tw10812912482777565550 : Unit := ()
def PySem.W.Fast.tw10251835778827775141 : Unit := ()
def PySem.W.Fast.tw17079890840158271959 : Unit := ()
def PySem.W.Fast.tw3720051681185599447 : Unit := ()
def PySem.W.Fast.tw12437196985309888480 : Unit := ()
def PySem.W.Fast.tw10353258713624513521 : Unit := ()
def PySem.W.Fast.tw3405002736128850686 : Unit := ()
def PySem.W.Fast.tw11491246111750459356 : Unit := ()
def PySem.W.Fast.tw2691368992395728629 : Unit := ()
def PySem.W.Fast.tw11570801805002916660 : Unit := ()
def PySem.W.Fast.tw12560823390132563364 : Unit := ()
def PySem.W.Fast.tw12118157533268148674 : Unit := ()
def PySem.W.Fast.tw5461913110558824588 : Unit := ()
def PySem.W.Fast.tw2529967450243229122 : Unit := ()
def PySem.W.Fast.tw12843364468420302575 : Unit := ()
def PySem.W.Fast.tw9956291118285632602 : Unit := ()
def PySem.W.Fast.tw894043306233305840 : Unit := ()
def PySem.W.Fast.tw17334216084147500990 : Unit := ()
def PySem.W.Fast.tw4616189233751354318 : Unit := ()
def PySem.W.Fast.tw13071706447477150980 : Unit := ()
def PySem.W.Fast.tw817884534022551009 : Unit := ()
def PySem.W.Fast.tw8173890072631503196 : Unit := ()
def PySem.W.Fast.tw9431771303625474153 : Unit := ()
def PySem.W.Fast.tw11096496526064390288 : Unit := ()
def PySem.W.Fast.tw4944962300768366929 : Unit := ()
def PySem.W.Fast.tw3496800728860798683 : Unit := ()
def PySem.W.Fast.tw15487481132810667165 : Unit := ()
def PySem.W.Fast.tw7317341863426036837 : Unit := ()
def PySem.W.Fast.tw17172976805141143644 : Unit := ()
def PySem.W.Fast.tw9038835941377043339 : Unit := ()
def PySem.W.Fast.tw12993584412596980904 : Unit := ()
def PySem.W.Fast.tw1058660331252316769 : Unit := ()
def PySem.W.Fast.tw14544730295529218113 : Unit := ()
def PySem.W.Fast.tw9826443408668952437 : Unit := ()
def PySem.W.Fast.tw3589784068239622495 : Unit := ()
def PySem.W.Fast.tw11326495998721489602 : Unit := ()
def PySem.W.Fast.tw623411642356454562 : Unit := ()
def PySem.W.Fast.tw8118321665005813722 : Unit := ()
def PySem.W.Fast.tw5589440079911986045 : Unit := ()
def PySem.W.Fast.tw8466768269083153296 : Unit := ()
def PySem.W.Fast.tw1002101298721291616 : Unit := ()
def PySem.W.Fast.tw15799213806384561573 : Unit := ()
def PySem.W.Fast.tw9529444304923166386 : Unit := ()
def PySem.W.Fast.tw1262499356149456572 : Unit := ()
def PySem.W.Fast.tw13962906503033236248 : Unit := ()
def PySem.W.Fast.tw4787679640058324404 : Unit := ()
def PySem.W.Fast.tw945529110340311729 : Unit := ()
def PySem.W.Fast.tw9723068961464113328 : Unit := ()
def PySem.W.Fast.tw11825161424515464796 : Unit := ()
open PySem PySem.W PyProof.Rows
set_option maxRecDepth 100000 in
set_option maxHeartbeats 0 in
theorem PySem.Challenge.cw_treebridge_s01_answers_holds : PySem.Challenge.rw_treebridge_s01_answers.Holds := by
  w_on; k_headS; (case hw => exact ⟨[.list [.int 0, .int 0, .int 1]], by decide +kernel, by decide +kernel⟩)
  k_fillS
  refine L2.walk_specK (r := PySem.Challenge.rw_treebridge_s01_answers) (k := 15) (CX := L2.CX0) (ps := ["calls"]) (sp := Tb.spTop) (by decide +kernel) rfl rfl ⟨rfl, by decide, by decide⟩ (fun w h Y => PySem.W.kIn_of Y) ?F ?S (fun _ _ _ _ z => z)
  case F =>
    intro w mg fa h Y KX G hmg
    have T : ∃ t : Tb.Adr, PySem.W.nsIn (L2.KOf KX) mainGlobals "answers" = some (some (.ref t.f_answers)) ∧ Tb.Txt (L2.KOf KX) mg t := by
      dsimp only [L2.KOf]
      refine' Tb.txt_mk KX G ?h0 ?h1 ?h2 ?h3 ?h4 ?h5 ?h6 ?h7 ?h8 ?h9 ?h10 ?h11 ?h12 ?h13 ?h14 ?h15 ?h16 ?h17 ?h18 ?h19 ?h20 ?h21 ?h22 ?h23 ?h24 ?h25 ?e0 ?h27 ?h28 ?h29 ?h30 ?h31 ?h32 ?h33 ?h34 ?h35 ?h36 ?h37 ?h38 ?h39 ?h40 ?h41 ?h42 ?h43 ?h44 ?h45 ?h46 ?h47 ?h48 ?h49 ?h50 ?h51 ?h52 ?h53 ?h54 ?h55 ?h56 ?h57 ?h58 ?h59 ?h60 ?h61 ?h62 ?h63 ?h64 ?h65 ?h66 ?h67 ?h68 ?h69 ?h70 ?h71 ?h72 ?h73 ?h74 ?h75 ?h76 ?h77 ?h78 ?h79 ?h80 ?h81 ?h82 ?h83 ?h84 ?h85 ?h86 ?h87 ?h88 ?h89 ?h90 ?h91 ?h92 ?h93 ?h94 ?h95 ?h96 ?h97 ?h98 ?h99 ?h100 ?h101 ?h102 ?h103 ?h104 ?h105 ?h106 ?h107 ?h108 ?h109 ?h110 ?h111 ?h112 ?h113 ?a0 ?i0 ?l0 ?o0 ?k0 ?a1 ?i1 ?l1 ?o1 ?k1 ?a2 ?i2 ?l2 ?o2 ?k2 ?a3 ?i3 ?l3 ?o3 ?k3 ?a4 ?i4 ?l4 ?o4 ?k4 ?a5 ?i5 ?l5 ?o5 ?k5 ?a6 ?i6 ?l6 ?o6 ?k6 ?a7 ?l7 ?o7 ?k7 ?a8 ?l8 ?o8 ?k8 ?a9 ?l9 ?o9 ?k9 ?a10 ?l10 ?o10 ?k10 ?a11 ?l11 ?o11 ?k11 ?a12 ?l12 ?o12 ?k12 ?a13 ?l13 ?o13 ?k13 ?a14 ?l14 ?o14 ?k14 ?a15 ?l15 ?o15 ?k15 ?a16 ?l16 ?o16 ?k16 ?a17 ?i17 ?l17 ?o17 ?k17 ?a18 ?i18 ?l18 ?o18 ?k18 ?a19 ?i19 ?l19 ?o19 ?k19 ?a20 ?i20 ?l20 ?o20 ?k20 ?a21 ?i21 ?l21 ?o21 ?k21 ?a22 ?l22 ?o22 ?k22 ?a23 ?l23 ?o23 ?k23 ?a24 ?l24 ?o24 ?k24 ?a25 ?i25 ?l25 ?o25 ?k25 ?a26 ?i26 ?l26 ?o26 ?k26 ?a27 ?i27 ?l27 ?o27 ?k27 ?a28 ?i28 ?l28 ?o28 ?k28 ?a29 ?i29 ?l29 ?o29 ?k29 ?a30 ?i30 ?l30 ?o30 ?k30 ?a31 ?i31 ?l31 ?o31 ?k31 ?a32 ?i32 ?l32 ?o32 ?k32 ?a33 ?i33 ?l33 ?o33 ?k33 ?a34 ?i34 ?l34 ?o34 ?k34 ?a35 ?i35 ?l35 ?o35 ?k35 ?a36 ?i36 ?l36 ?o36 ?k36 ?a37 ?i37 ?l37 ?o37 ?k37 ?a38 ?i38 ?l38 ?o38 ?k38 ?a39 ?i39 ?l39 ?o39 ?k39 ?a40 ?i40 ?l40 ?o40 ?k40 ?a41 ?i41 ?l41 ?o41 ?k41 ?a42 ?i42 ?l42 ?o42 ?k42 ?a43 ?i43 ?l43 ?o43 ?k43 ?a44 ?i44 ?l44 ?o44 ?k44 ?a45 ?i45 ?l45 ?o45 ?k45 ?a46 ?i46 ?l46 ?o46 ?k46 ?a47 ?i47 ?l47 ?o47 ?k47 ?a48 ?l48 ?o48 ?k48 ?a49 ?l49 ?o49 ?k49 ?a50 ?l50 ?o50 ?k50 ?a51 ?l51 ?o51 ?k51 ?a52 ?l52 ?o52 ?k52 ?a53 ?l53 ?o53 ?k53 ?a54 ?l54 ?o54 ?k54 ?a55 ?l55 ?o55 ?k55 ?a56 ?l56 ?o56 ?k56 ?a57 ?l57 ?o57 ?k57 ?a58 ?l58 ?o58 ?k58 ?a59 ?l59 ?o59 ?k59 ?a60 ?l60 ?o60 ?k60 ?a61 ?l61 ?o61 ?k61 ?a62 ?l62 ?o62 ?k62 ?a63 ?l63 ?o63 ?k63 ?a64 ?l64 ?o64 ?k64 ?a65 ?l65 ?o65 ?k65 ?a66 ?l66 ?o66 ?k66 ?a67 ?l67 ?o67 ?k67 ?a68 ?l68 ?o68 ?k68 ?a69 ?l69 ?o69 ?k69 ?a70 ?l70 ?o70 ?k70 ?a71 ?l71 ?o71 ?k71 ?a72 ?l72 ?o72 ?k72 ?a73 ?l73 ?o73 ?k73 ?a74 ?l74 ?o74 ?k74 ?a75 ?l75 ?o75 ?k75 ?a76 ?l76 ?o76 ?k76 ?a77 ?l77 ?o77 ?k77
      case h0 | h1 | h2 | h3 | h4 | h5 | h6 | h7 | h8 | h9 | h10 | h11 | h12 | h13 | h14 | h15 | h16 | h17 | h18 | h19 | h20 | h21 | h22 | h23 | h24 | h25 => k_is
      case e0 => exact ⟨rfl, ⟨_, rfl⟩, ⟨_, rfl⟩, rfl, ⟨_, rfl⟩, ⟨_, rfl⟩, rfl, ⟨_, rfl⟩, ⟨_, rfl⟩, rfl, ⟨_, rfl⟩, ⟨_, rfl⟩, rfl, ⟨_, rfl⟩, ⟨_, rfl⟩, rfl, ⟨_, rfl⟩, ⟨_, rfl⟩, rfl, ⟨_, rfl⟩, ⟨_, rfl⟩, rfl, ⟨_, rfl⟩, ⟨_, rfl⟩, trivial⟩
      case h27 | h28 | h29 | h30 | h31 | h32 | h33 | h34 | h35 | h36 | h37 | h38 | h39 | h40 | h41 | h42 | h43 | h44 | h45 | h46 | h47 | h48 | h49 | h50 | h51 | h52 | h53 | h54 | h55 | h56 | h57 | h58 | h59 | h60 | h61 | h62 | h63 | h64 | h65 | h66 | h67 | h68 | h69 | h70 | h71 | h72 | h73 | h74 | h75 | h76 | h77 | h78 | h79 | h80 | h81 | h82 | h83 | h84 | h85 | h86 | h87 | h88 | h89 | h90 | h91 | h92 | h93 | h94 | h95 | h96 | h97 | h98 | h99 | h100 | h101 | h102 | h103 | h104 | h105 | h106 | h107 | h108 | h109 | h110 | h111 | h112 | h113 | a0 | i0 | l0 | o0 | k0 | a1 | i1 | l1 | o1 | k1 | a2 | i2 | l2 | o2 | k2 | a3 | i3 | l3 | o3 | k3 | a4 | i4 | l4 | o4 | k4 | a5 | i5 | l5 | o5 | k5 | a6 | i6 | l6 | o6 | k6 | a7 | l7 | o7 | k7 | a8 | l8 | o8 | k8 | a9 | l9 | o9 | k9 | a10 | l10 | o10 | k10 | a11 | l11 | o11 | k11 | a12 | l12 | o12 | k12 | a13 | l13 | o13 | k13 | a14 | l14 | o14 | k14 | a15 | l15 | o15 | k15 | a16 | l16 | o16 | k16 | a17 | i17 | l17 | o17 | k17 | a18 | i18 | l18 | o18 | k18 | a19 | i19 | l19 | o19 | k19 | a20 | i20 | l20 | o20 | k20 | a21 | i21 | l21 | o21 | k21 | a22 | l22 | o22 | k22 | a23 | l23 | o23 | k23 | a24 | l24 | o24 | k24 | a25 | i25 | l25 | o25 | k25 | a26 | i26 | l26 | o26 | k26 | a27 | i27 | l27 | o27 | k27 | a28 | i28 | l28 | o28 | k28 | a29 | i29 | l29 | o29 | k29 | a30 | i30 | l30 | o30 | k30 | a31 | i31 | l31 | o31 | k31 | a32 | i32 | l32 | o32 | k32 | a33 | i33 | l33 | o33 | k33 | a34 | i34 | l34 | o34 | k34 | a35 | i35 | l35 | o35 | k35 | a36 | i36 | l36 | o36 | k36 | a37 | i37 | l37 | o37 | k37 | a38 | i38 | l38 | o38 | k38 | a39 | i39 | l39 | o39 | k39 | a40 | i40 | l40 | o40 | k40 | a41 | i41 | l41 | o41 | k41 | a42 | i42 | l42 | o42 | k42 | a43 | i43 | l43 | o43 | k43 | a44 | i44 | l44 | o44 | k44 | a45 | i45 | l45 | o45 | k45 | a46 | i46 | l46 | o46 | k46 | a47 | i47 | l47 | o47 | k47 | a48 | l48 | o48 | k48 | a49 | l49 | o49 | k49 | a50 | l50 | o50 | k50 | a51 | l51 | o51 | k51 | a52 | l52 | o52 | k52 | a53 | l53 | o53 | k53 | a54 | l54 | o54 | k54 | a55 | l55 | o55 | k55 | a56 | l56 | o56 | k56 | a57 | l57 | o57 | k57 | a58 | l58 | o58 | k58 | a59 | l59 | o59 | k59 | a60 | l60 | o60 | k60 | a61 | l61 | o61 | k61 | a62 | l62 | o62 | k62 | a63 | l63 | o63 | k63 | a64 | l64 | o64 | k64 | a65 | l65 | o65 | k65 | a66 | l66 | o66 | k66 | a67 | l67 | o67 | k67 | a68 | l68 | o68 | k68 | a69 | l69 | o69 | k69 | a70 | l70 | o70 | k70 | a71 | l71 | o71 | k71 | a72 | l72 | o72 | k72 | a73 | l73 | o73 | k73 | a74 | l74 | o74 | k74 | a75 | l75 | o75 | k75 | a76 | l76 | o76 | k76 | a77 | l77 | o77 | k77 => k_is
    obtain ⟨t, e, T⟩ := T
    have e0 := hmg.symm.trans (PySem.W.mg_of KX G e)
    cases e0
    exact ⟨_, T.top_binds, fun base kb nb => Tb.ok_answers T⟩
  case S =>
    intro K H xs a hO hwi hask hx
    cases hx with
    | cons h1 h2 =>
      cases h2
      cases h1 with
      | lst hs ha =>
        have e := L2.ints_dw a.1 _ ha
        subst e
        have q : ((Codec.inLen 0 16000 a.1 && a.1.all (Codec.inInt 0 18446744073709551615)) && true) = true := hwi
        rw [Bool.and_eq_true, Bool.and_eq_true] at q
        exact ⟨_, rfl, _, a.1, rfl, hs, (Codec.inNat_iff.mp q.1.1).2, hask, fun H' p hp => .lst (L2.SqL.of hp) (L2.dw_ints _)⟩
